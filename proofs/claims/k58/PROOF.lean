import PyProof.Rows.All
import Wide.All
import OpenK.AllK
import Wide.FinOn
import HandS.ForMost
import HandS.ForExc
import HandS.IsInst
import HandS.Evl
import HandS.Walk
import HandS.Deep
import HandS.HeadHook4
import HandS.Head2
import HandS.HeadEnd
import HandS.HeadWalk
import HandS.Wide
import HandS.CallLocal
import HandS.ExcCtx
import HandS.HotCalls
import HandS.SuiteRaise
import HandS.ExcInitHot
import HandS.ExcField
import HandS.Lambda
import HandS.TupAny
import HandS.Style
import HandS.Strs
import HandS.CallSlots
import HandS.Zip
import HandS.Comp
import HandS.DictComp
import PyProof.CompUse
import HandS.SortKw
import HandS.SortInts
import HandS.WordsDict
import PyProof.Rows.SortShellAny
import HandS.More
import HandS.Conv
import HandS.Flow
import HandS.Small
import HandS.StrMore
import HandS.StrSplit
import HandS.ExcIs
import HandS.Words
import HandS.ExcInit
import KE.SortKeyHeap
import HandS.NestedK
import HandS.ReplaceLit
import HandS.ReplaceList
import HandS.Text
import PyProof.DictUpdate
import PyProof.DictDisplay
import PySem.Challenge.RW_boundstone_k58_client_step_by_step
set_option Elab.async false
set_option linter.all false
set_option maxRecDepth 100000
set_option maxHeartbeats 8000000
/-! Q0: what the head asks of a text -/
namespace Q
open PySem L2 Evl
abbrev Frag := PySem.W.Frag
/-- values: lists that nobody changes are values (lst; rol: the script); exc: a caught exception -/
inductive W where
  | non | bl (b : Bool) | int (i : Int) | str (x : Str) | tup (ws : List W) | lst (ws : List W) | rol (ws : List W) | ref (a : Addr) | fn (x : Str) | exc (a : Addr) (d : Option Addr) (c : Str) (fs : List (Str × W))
def noLst (K : Frag) : Bool := K.all fun q => match q.2.cls with
  | .type c => !decide (c = "list")
  | _ => true
def eqStrs : List Value → List Str → Bool
  | [], [] => true
  | .str x _ :: r, y :: s => decide (x = y) && eqStrs r s
  | _, _ => false
def tupB (K : Frag) (a : Addr) (ws : List Str) : Bool := match K.lookup a with
  | some ⟨.type c, _, .seq its _, _⟩ => decide (c = "tuple") && (decide (its.size ≤ 100) && eqStrs its.toList ws)
  | _ => false
/-- a written value, told as a W -/
def tvB (K : Frag) : W → Value → Bool
  | .int i, .int j _ => decide (i = j)
  | .str z, .str y _ => decide (z = y)
  | .fn f, .ref t => decide (t = He.ga K f)
  | .tup ws, .ref t => (match ws.mapM (fun w => match w with
    | W.str z => some z
    | _ => none) with
    | some zs => tupB K t zs
    | none => false)
  | _, _ => false
def tabVB (K : Frag) (x : Str) (kvs : List (Str × W)) : Bool := kvs.all fun p => match PySem.W.nsIn K (He.ga K x) p.1 with
  | some (some v) => tvB K p.2 v
  | _ => false
def tabNd (K : Frag) (tf : List ((Str × Option Str) × Str)) : Bool := decide ((tf.map fun p => (He.cT K p.1).2).Nodup)
def inCls (s : Stmt) (j : Nat) : Stmt := match s with
  | .ClassDef _ _ _ b _ _ _ _ _ _ _ => b.getD j (.Pass ⟨0, 0, 0, 0⟩)
  | _ => .Pass ⟨0, 0, 0, 0⟩
end Q
namespace K58
open PySem PySem.Spec PyProof.Rows L2 Evl Q
def top (i : Nat) : Stmt := PySem.Challenge.pw_boundstone_k58_client_step_by_step.main.body.getD i (.Pass ⟨0, 0, 0, 0⟩)
abbrev s_is_key : Stmt := top 13
abbrev s_is_bound : Stmt := top 14
abbrev s_is_range : Stmt := top 15
abbrev s_below : Stmt := top 16
abbrev s_contains : Stmt := top 17
abbrev s_overlap : Stmt := top 18
abbrev s_is_printable : Stmt := top 21
abbrev s_is_integer : Stmt := top 22
abbrev s_kind_of : Stmt := top 24
abbrev s_is_value : Stmt := top 25
abbrev s__is_pair : Stmt := top 27
abbrev s_are_pairs : Stmt := top 26
abbrev s__is_key_alone : Stmt := top 28
abbrev s__is_put : Stmt := top 29
abbrev s__is_swap : Stmt := top 30
abbrev s__is_page : Stmt := top 31
abbrev s_is_operation : Stmt := top 33
abbrev s_place : Stmt := top 34
abbrev s__is_word_alone : Stmt := top 35
abbrev s__is_value_told : Stmt := top 36
abbrev s__is_page_told : Stmt := top 37
abbrev s_is_answer : Stmt := top 39
abbrev s_is_server : Stmt := top 41
abbrev s_is_client : Stmt := top 42
abbrev s_is_pairs : Stmt := top 43
abbrev s_is_number : Stmt := top 46
abbrev s__is_row : Stmt := top 45
abbrev s_is_rows : Stmt := top 44
abbrev s__is_ask : Stmt := top 47
abbrev s__is_where : Stmt := top 48
abbrev s__is_told : Stmt := top 49
abbrev s__is_elsewhere : Stmt := top 50
abbrev s_names_shard : Stmt := top 51
abbrev s__names_server : Stmt := top 52
abbrev s__is_split : Stmt := top 53
abbrev s__is_join : Stmt := top 54
abbrev s__is_have : Stmt := top 55
abbrev s__is_content : Stmt := top 56
abbrev s__is_receipt : Stmt := top 57
abbrev s_is_letter : Stmt := top 60
abbrev s__is_party : Stmt := top 61
abbrev s_check_letter : Stmt := top 62
abbrev s__lesser : Stmt := top 67
abbrev s_apart : Stmt := top 64
abbrev s_filled : Stmt := top 65
abbrev s_fused : Stmt := top 66
abbrev s_Routes___init__ : Stmt := inCls (top 69) 0
abbrev s__newer : Stmt := top 70
abbrev s_Routes_add : Stmt := inCls (top 69) 1
abbrev s_Routes_pieces : Stmt := inCls (top 69) 2
abbrev s_Routes_find : Stmt := inCls (top 69) 3
abbrev s_Routes_drop : Stmt := inCls (top 69) 4
abbrev s_Client___init__ : Stmt := inCls (top 72) 0
abbrev s_Client_pending : Stmt := inCls (top 72) 4
abbrev s_Client__send : Stmt := inCls (top 72) 7
abbrev s_Client_submit : Stmt := inCls (top 72) 1
abbrev s_Client_tick : Stmt := inCls (top 72) 2
abbrev s_Client__learn : Stmt := inCls (top 72) 8
abbrev s_Client__is_pending : Stmt := inCls (top 72) 11
abbrev s_Client__forget : Stmt := inCls (top 72) 9
abbrev s_Client__accept : Stmt := inCls (top 72) 10
abbrev s_Client_receive : Stmt := inCls (top 72) 3
abbrev s_Client_accepted : Stmt := inCls (top 72) 5
abbrev s_Client_pieces : Stmt := inCls (top 72) 6
abbrev s__law_cell : Stmt := top 74
abbrev s__law_rich : Stmt := top 75
abbrev s__law_word : Stmt := top 76
abbrev s__law_key : Stmt := top 77
abbrev s__law_bound : Stmt := top 78
abbrev s__law_value : Stmt := top 79
abbrev s__law_operation : Stmt := top 80
abbrev s__law_part : Stmt := top 81
abbrev s__law_letters : Stmt := top 82
abbrev s__law_there : Stmt := top 83
abbrev s__law_elsewhere : Stmt := top 84
abbrev s__law_answer : Stmt := top 85
abbrev s__law_strange : Stmt := top 86
abbrev s__law_call : Stmt := top 87
abbrev s__law_pieces : Stmt := top 88
abbrev s__law_same : Stmt := top 89
abbrev s_law : Stmt := top 90
/-! ### the head: the top runs -/
def d_is_key : He.DefD := ⟨("is_key", none), "is_key", "is_key", defArgs s_is_key, defBody s_is_key, defScope s_is_key, [], []⟩
def d_is_bound : He.DefD := ⟨("is_bound", none), "is_bound", "is_bound", defArgs s_is_bound, defBody s_is_bound, defScope s_is_bound, [], []⟩
def d_is_range : He.DefD := ⟨("is_range", none), "is_range", "is_range", defArgs s_is_range, defBody s_is_range, defScope s_is_range, [], []⟩
def d_below : He.DefD := ⟨("below", none), "below", "below", defArgs s_below, defBody s_below, defScope s_below, [], []⟩
def d_contains : He.DefD := ⟨("contains", none), "contains", "contains", defArgs s_contains, defBody s_contains, defScope s_contains, [], []⟩
def d_overlap : He.DefD := ⟨("overlap", none), "overlap", "overlap", defArgs s_overlap, defBody s_overlap, defScope s_overlap, [], []⟩
def d_is_printable : He.DefD := ⟨("is_printable", none), "is_printable", "is_printable", defArgs s_is_printable, defBody s_is_printable, defScope s_is_printable, [], []⟩
def d_is_integer : He.DefD := ⟨("is_integer", none), "is_integer", "is_integer", defArgs s_is_integer, defBody s_is_integer, defScope s_is_integer, [], []⟩
def d_kind_of : He.DefD := ⟨("kind_of", none), "kind_of", "kind_of", defArgs s_kind_of, defBody s_kind_of, defScope s_kind_of, [], []⟩
def d_is_value : He.DefD := ⟨("is_value", none), "is_value", "is_value", defArgs s_is_value, defBody s_is_value, defScope s_is_value, [], []⟩
def d__is_pair : He.DefD := ⟨("_is_pair", none), "_is_pair", "_is_pair", defArgs s__is_pair, defBody s__is_pair, defScope s__is_pair, [], []⟩
def d_are_pairs : He.DefD := ⟨("are_pairs", none), "are_pairs", "are_pairs", defArgs s_are_pairs, defBody s_are_pairs, defScope s_are_pairs, [], []⟩
def d__is_key_alone : He.DefD := ⟨("_is_key_alone", none), "_is_key_alone", "_is_key_alone", defArgs s__is_key_alone, defBody s__is_key_alone, defScope s__is_key_alone, [], []⟩
def d__is_put : He.DefD := ⟨("_is_put", none), "_is_put", "_is_put", defArgs s__is_put, defBody s__is_put, defScope s__is_put, [], []⟩
def d__is_swap : He.DefD := ⟨("_is_swap", none), "_is_swap", "_is_swap", defArgs s__is_swap, defBody s__is_swap, defScope s__is_swap, [], []⟩
def d__is_page : He.DefD := ⟨("_is_page", none), "_is_page", "_is_page", defArgs s__is_page, defBody s__is_page, defScope s__is_page, [], []⟩
def d_is_operation : He.DefD := ⟨("is_operation", none), "is_operation", "is_operation", defArgs s_is_operation, defBody s_is_operation, defScope s_is_operation, [], []⟩
def d_place : He.DefD := ⟨("place", none), "place", "place", defArgs s_place, defBody s_place, defScope s_place, [], []⟩
def d__is_word_alone : He.DefD := ⟨("_is_word_alone", none), "_is_word_alone", "_is_word_alone", defArgs s__is_word_alone, defBody s__is_word_alone, defScope s__is_word_alone, [], []⟩
def d__is_value_told : He.DefD := ⟨("_is_value_told", none), "_is_value_told", "_is_value_told", defArgs s__is_value_told, defBody s__is_value_told, defScope s__is_value_told, [], []⟩
def d__is_page_told : He.DefD := ⟨("_is_page_told", none), "_is_page_told", "_is_page_told", defArgs s__is_page_told, defBody s__is_page_told, defScope s__is_page_told, [], []⟩
def d_is_answer : He.DefD := ⟨("is_answer", none), "is_answer", "is_answer", defArgs s_is_answer, defBody s_is_answer, defScope s_is_answer, [], []⟩
def d_is_server : He.DefD := ⟨("is_server", none), "is_server", "is_server", defArgs s_is_server, defBody s_is_server, defScope s_is_server, [], []⟩
def d_is_client : He.DefD := ⟨("is_client", none), "is_client", "is_client", defArgs s_is_client, defBody s_is_client, defScope s_is_client, [], []⟩
def d_is_pairs : He.DefD := ⟨("is_pairs", none), "is_pairs", "is_pairs", defArgs s_is_pairs, defBody s_is_pairs, defScope s_is_pairs, [], []⟩
def d_is_number : He.DefD := ⟨("is_number", none), "is_number", "is_number", defArgs s_is_number, defBody s_is_number, defScope s_is_number, [], []⟩
def d__is_row : He.DefD := ⟨("_is_row", none), "_is_row", "_is_row", defArgs s__is_row, defBody s__is_row, defScope s__is_row, [], []⟩
def d_is_rows : He.DefD := ⟨("is_rows", none), "is_rows", "is_rows", defArgs s_is_rows, defBody s_is_rows, defScope s_is_rows, [], []⟩
def d__is_ask : He.DefD := ⟨("_is_ask", none), "_is_ask", "_is_ask", defArgs s__is_ask, defBody s__is_ask, defScope s__is_ask, [], []⟩
def d__is_where : He.DefD := ⟨("_is_where", none), "_is_where", "_is_where", defArgs s__is_where, defBody s__is_where, defScope s__is_where, [], []⟩
def d__is_told : He.DefD := ⟨("_is_told", none), "_is_told", "_is_told", defArgs s__is_told, defBody s__is_told, defScope s__is_told, [], []⟩
def d__is_elsewhere : He.DefD := ⟨("_is_elsewhere", none), "_is_elsewhere", "_is_elsewhere", defArgs s__is_elsewhere, defBody s__is_elsewhere, defScope s__is_elsewhere, [], []⟩
def d_names_shard : He.DefD := ⟨("names_shard", none), "names_shard", "names_shard", defArgs s_names_shard, defBody s_names_shard, defScope s_names_shard, [], []⟩
def d__names_server : He.DefD := ⟨("_names_server", none), "_names_server", "_names_server", defArgs s__names_server, defBody s__names_server, defScope s__names_server, [], []⟩
def d__is_split : He.DefD := ⟨("_is_split", none), "_is_split", "_is_split", defArgs s__is_split, defBody s__is_split, defScope s__is_split, [], []⟩
def d__is_join : He.DefD := ⟨("_is_join", none), "_is_join", "_is_join", defArgs s__is_join, defBody s__is_join, defScope s__is_join, [], []⟩
def d__is_have : He.DefD := ⟨("_is_have", none), "_is_have", "_is_have", defArgs s__is_have, defBody s__is_have, defScope s__is_have, [], []⟩
def d__is_content : He.DefD := ⟨("_is_content", none), "_is_content", "_is_content", defArgs s__is_content, defBody s__is_content, defScope s__is_content, [], []⟩
def d__is_receipt : He.DefD := ⟨("_is_receipt", none), "_is_receipt", "_is_receipt", defArgs s__is_receipt, defBody s__is_receipt, defScope s__is_receipt, [], []⟩
def d_is_letter : He.DefD := ⟨("is_letter", none), "is_letter", "is_letter", defArgs s_is_letter, defBody s_is_letter, defScope s_is_letter, [], []⟩
def d__is_party : He.DefD := ⟨("_is_party", none), "_is_party", "_is_party", defArgs s__is_party, defBody s__is_party, defScope s__is_party, [], []⟩
def d_check_letter : He.DefD := ⟨("check_letter", none), "check_letter", "check_letter", defArgs s_check_letter, defBody s_check_letter, defScope s_check_letter, [], []⟩
def d__lesser : He.DefD := ⟨("_lesser", none), "_lesser", "_lesser", defArgs s__lesser, defBody s__lesser, defScope s__lesser, [], []⟩
def d_apart : He.DefD := ⟨("apart", none), "apart", "apart", defArgs s_apart, defBody s_apart, defScope s_apart, [], []⟩
def d_filled : He.DefD := ⟨("filled", none), "filled", "filled", defArgs s_filled, defBody s_filled, defScope s_filled, [], []⟩
def d_fused : He.DefD := ⟨("fused", none), "fused", "fused", defArgs s_fused, defBody s_fused, defScope s_fused, [], []⟩
def d__newer : He.DefD := ⟨("_newer", none), "_newer", "_newer", defArgs s__newer, defBody s__newer, defScope s__newer, [], []⟩
def d__law_cell : He.DefD := ⟨("_law_cell", none), "_law_cell", "_law_cell", defArgs s__law_cell, defBody s__law_cell, defScope s__law_cell, [], []⟩
def d__law_rich : He.DefD := ⟨("_law_rich", none), "_law_rich", "_law_rich", defArgs s__law_rich, defBody s__law_rich, defScope s__law_rich, [], []⟩
def d__law_word : He.DefD := ⟨("_law_word", none), "_law_word", "_law_word", defArgs s__law_word, defBody s__law_word, defScope s__law_word, [], []⟩
def d__law_key : He.DefD := ⟨("_law_key", none), "_law_key", "_law_key", defArgs s__law_key, defBody s__law_key, defScope s__law_key, [], []⟩
def d__law_bound : He.DefD := ⟨("_law_bound", none), "_law_bound", "_law_bound", defArgs s__law_bound, defBody s__law_bound, defScope s__law_bound, [], []⟩
def d__law_value : He.DefD := ⟨("_law_value", none), "_law_value", "_law_value", defArgs s__law_value, defBody s__law_value, defScope s__law_value, [], []⟩
def d__law_operation : He.DefD := ⟨("_law_operation", none), "_law_operation", "_law_operation", defArgs s__law_operation, defBody s__law_operation, defScope s__law_operation, [], []⟩
def d__law_part : He.DefD := ⟨("_law_part", none), "_law_part", "_law_part", defArgs s__law_part, defBody s__law_part, defScope s__law_part, [], []⟩
def d__law_letters : He.DefD := ⟨("_law_letters", none), "_law_letters", "_law_letters", defArgs s__law_letters, defBody s__law_letters, defScope s__law_letters, [], []⟩
def d__law_there : He.DefD := ⟨("_law_there", none), "_law_there", "_law_there", defArgs s__law_there, defBody s__law_there, defScope s__law_there, [], []⟩
def d__law_elsewhere : He.DefD := ⟨("_law_elsewhere", none), "_law_elsewhere", "_law_elsewhere", defArgs s__law_elsewhere, defBody s__law_elsewhere, defScope s__law_elsewhere, [], []⟩
def d__law_answer : He.DefD := ⟨("_law_answer", none), "_law_answer", "_law_answer", defArgs s__law_answer, defBody s__law_answer, defScope s__law_answer, [], []⟩
def d__law_strange : He.DefD := ⟨("_law_strange", none), "_law_strange", "_law_strange", defArgs s__law_strange, defBody s__law_strange, defScope s__law_strange, [], []⟩
def d__law_call : He.DefD := ⟨("_law_call", none), "_law_call", "_law_call", defArgs s__law_call, defBody s__law_call, defScope s__law_call, [], []⟩
def d__law_pieces : He.DefD := ⟨("_law_pieces", none), "_law_pieces", "_law_pieces", defArgs s__law_pieces, defBody s__law_pieces, defScope s__law_pieces, [], []⟩
def d__law_same : He.DefD := ⟨("_law_same", none), "_law_same", "_law_same", defArgs s__law_same, defBody s__law_same, defScope s__law_same, [], []⟩
def d_law : He.DefD := ⟨("law", none), "law", "law", defArgs s_law, defBody s_law, defScope s_law, [], []⟩
def d_Routes___init__ : He.DefD := ⟨("Routes", some "__init__"), "__init__", "Routes.__init__", defArgs s_Routes___init__, defBody s_Routes___init__, defScope s_Routes___init__, [], []⟩
def d_Routes_add : He.DefD := ⟨("Routes", some "add"), "add", "Routes.add", defArgs s_Routes_add, defBody s_Routes_add, defScope s_Routes_add, [], []⟩
def d_Routes_pieces : He.DefD := ⟨("Routes", some "pieces"), "pieces", "Routes.pieces", defArgs s_Routes_pieces, defBody s_Routes_pieces, defScope s_Routes_pieces, [], []⟩
def d_Routes_find : He.DefD := ⟨("Routes", some "find"), "find", "Routes.find", defArgs s_Routes_find, defBody s_Routes_find, defScope s_Routes_find, [], []⟩
def d_Routes_drop : He.DefD := ⟨("Routes", some "drop"), "drop", "Routes.drop", defArgs s_Routes_drop, defBody s_Routes_drop, defScope s_Routes_drop, [], []⟩
def d_Client___init__ : He.DefD := ⟨("Client", some "__init__"), "__init__", "Client.__init__", defArgs s_Client___init__, defBody s_Client___init__, defScope s_Client___init__, [], []⟩
def d_Client_pending : He.DefD := ⟨("Client", some "pending"), "pending", "Client.pending", defArgs s_Client_pending, defBody s_Client_pending, defScope s_Client_pending, [], []⟩
def d_Client__send : He.DefD := ⟨("Client", some "_send"), "_send", "Client._send", defArgs s_Client__send, defBody s_Client__send, defScope s_Client__send, [], []⟩
def d_Client_submit : He.DefD := ⟨("Client", some "submit"), "submit", "Client.submit", defArgs s_Client_submit, defBody s_Client_submit, defScope s_Client_submit, [], []⟩
def d_Client_tick : He.DefD := ⟨("Client", some "tick"), "tick", "Client.tick", defArgs s_Client_tick, defBody s_Client_tick, defScope s_Client_tick, [], []⟩
def d_Client__learn : He.DefD := ⟨("Client", some "_learn"), "_learn", "Client._learn", defArgs s_Client__learn, defBody s_Client__learn, defScope s_Client__learn, [], []⟩
def d_Client__is_pending : He.DefD := ⟨("Client", some "_is_pending"), "_is_pending", "Client._is_pending", defArgs s_Client__is_pending, defBody s_Client__is_pending, defScope s_Client__is_pending, [], []⟩
def d_Client__forget : He.DefD := ⟨("Client", some "_forget"), "_forget", "Client._forget", defArgs s_Client__forget, defBody s_Client__forget, defScope s_Client__forget, [], []⟩
def d_Client__accept : He.DefD := ⟨("Client", some "_accept"), "_accept", "Client._accept", defArgs s_Client__accept, defBody s_Client__accept, defScope s_Client__accept, [], []⟩
def d_Client_receive : He.DefD := ⟨("Client", some "receive"), "receive", "Client.receive", defArgs s_Client_receive, defBody s_Client_receive, defScope s_Client_receive, [], []⟩
def d_Client_accepted : He.DefD := ⟨("Client", some "accepted"), "accepted", "Client.accepted", defArgs s_Client_accepted, defBody s_Client_accepted, defScope s_Client_accepted, [], []⟩
def d_Client_pieces : He.DefD := ⟨("Client", some "pieces"), "pieces", "Client.pieces", defArgs s_Client_pieces, defBody s_Client_pieces, defScope s_Client_pieces, [], []⟩
def fn : List He.DefD := [d_is_key, d_is_bound, d_is_range, d_below, d_contains, d_overlap, d_is_printable, d_is_integer, d_kind_of, d_is_value, d__is_pair, d_are_pairs, d__is_key_alone, d__is_put, d__is_swap, d__is_page, d_is_operation, d_place, d__is_word_alone, d__is_value_told, d__is_page_told, d_is_answer, d_is_server, d_is_client, d_is_pairs, d_is_number, d__is_row, d_is_rows, d__is_ask, d__is_where, d__is_told, d__is_elsewhere, d_names_shard, d__names_server, d__is_split, d__is_join, d__is_have, d__is_content, d__is_receipt, d_is_letter, d__is_party, d_check_letter, d__lesser, d_apart, d_filled, d_fused, d__newer, d__law_cell, d__law_rich, d__law_word, d__law_key, d__law_bound, d__law_value, d__law_operation, d__law_part, d__law_letters, d__law_there, d__law_elsewhere, d__law_answer, d__law_strange, d__law_call, d__law_pieces, d__law_same, d_law, d_Routes___init__, d_Routes_add, d_Routes_pieces, d_Routes_find, d_Routes_drop, d_Client___init__, d_Client_pending, d_Client__send, d_Client_submit, d_Client_tick, d_Client__learn, d_Client__is_pending, d_Client__forget, d_Client__accept, d_Client_receive, d_Client_accepted, d_Client_pieces]
def fa : List He.Fa := [.glo "is_key", .glo "is_bound", .glo "is_range", .glo "below", .glo "contains", .glo "overlap", .glo "is_printable", .glo "is_integer", .glo "kind_of", .glo "is_value", .glo "_is_pair", .glo "are_pairs", .glo "_is_key_alone", .glo "_is_put", .glo "_is_swap", .glo "_is_page", .glo "is_operation", .glo "place", .glo "_is_word_alone", .glo "_is_value_told", .glo "_is_page_told", .glo "is_answer", .glo "is_server", .glo "is_client", .glo "is_pairs", .glo "is_number", .glo "_is_row", .glo "is_rows", .glo "_is_ask", .glo "_is_where", .glo "_is_told", .glo "_is_elsewhere", .glo "names_shard", .glo "_names_server", .glo "_is_split", .glo "_is_join", .glo "_is_have", .glo "_is_content", .glo "_is_receipt", .glo "is_letter", .glo "_is_party", .glo "check_letter", .glo "_lesser", .glo "apart", .glo "filled", .glo "fused", .glo "_newer", .glo "_law_cell", .glo "_law_rich", .glo "_law_word", .glo "_law_key", .glo "_law_bound", .glo "_law_value", .glo "_law_operation", .glo "_law_part", .glo "_law_letters", .glo "_law_there", .glo "_law_elsewhere", .glo "_law_answer", .glo "_law_strange", .glo "_law_call", .glo "_law_pieces", .glo "_law_same", .glo "law", .glo "OPERATIONS", .glo "ANSWERS", .glo "FORMS", .glo "ROUTES", .glo "Routes", .glo "Client", .glo "TableError", .glo "BadOperation", .glo "BadLetter", .glo "BadServer", .free "len", .free "isinstance", .free "str", .free "ord", .free "bool", .free "int", .free "tuple", .free "max", .free "sorted", .free "list", .free "range", .int "MOST_KEY" 8, .int "BARRED" 37, .int "MOST_VALUE" 40, .int "MOST_PAGE" 50, .int "MOST_CLIENTS" 100, .int "MOST_NUMBER" 1000000000000, .int "DIRECTORY" 1000, .int "MOST_SERVERS" 20, .exc "BadOperation", .exc "BadLetter", .exc "BadServer", .exm "TableError" "BadLetter" false, .exm "BadOperation" "BadLetter" false, .exm "BadLetter" "BadLetter" true, .exm "BadServer" "BadLetter" false, .cls "Routes", .cls "Client", .noat "Routes" "_pieces", .noat "Client" "_name", .noat "Client" "_count", .noat "Client" "_routes", .noat "Client" "_ops", .noat "Client" "_accepted", .meth "Routes" "add", .meth "Routes" "pieces", .meth "Routes" "find", .meth "Routes" "drop", .meth "Client" "pending", .meth "Client" "_send", .meth "Client" "submit", .meth "Client" "tick", .meth "Client" "_learn", .meth "Client" "_is_pending", .meth "Client" "_forget", .meth "Client" "_accept", .meth "Client" "receive", .meth "Client" "accepted", .meth "Client" "pieces", .mkr "Routes", .mkr "Client"]
def ts : List He.Tab := [(fun K => He.ga K "OPERATIONS", ["get", "put", "drop", "swap", "page"]), (fun K => He.ga K "ANSWERS", ["value", "none", "done", "other", "page"]), (fun K => He.ga K "FORMS", ["ask", "where", "answer", "elsewhere", "there", "move", "split", "join", "have", "content", "receipt"]), (fun K => He.ga K "ROUTES", ["ask", "where", "answer", "elsewhere", "there", "move", "split", "join", "have", "content", "receipt"])]
def tq : List ((PySem.Str × Option PySem.Str) × PySem.Str) := [(("fused", none), ("fused" ++ ".<locals>." ++ "<lambda>"))]
def ex (K : Frag) : Bool := noLst K
 && tabVB K "OPERATIONS" [("get", .fn "_is_key_alone"), ("put", .fn "_is_put"), ("drop", .fn "_is_key_alone"), ("swap", .fn "_is_swap"), ("page", .fn "_is_page")] && tabVB K "ANSWERS" [("value", .fn "_is_value_told"), ("none", .fn "_is_word_alone"), ("done", .fn "_is_word_alone"), ("other", .fn "_is_value_told"), ("page", .fn "_is_page_told")] && tabVB K "FORMS" [("ask", .fn "_is_ask"), ("where", .fn "_is_where"), ("answer", .fn "_is_told"), ("elsewhere", .fn "_is_elsewhere"), ("there", .fn "_names_server"), ("move", .fn "_names_server"), ("split", .fn "_is_split"), ("join", .fn "_is_join"), ("have", .fn "_is_have"), ("content", .fn "_is_content"), ("receipt", .fn "_is_receipt")] && tabVB K "ROUTES" [("ask", .tup [.str "client", .str "server"]), ("where", .tup [.str "client", .str "directory"]), ("answer", .tup [.str "server", .str "client"]), ("elsewhere", .tup [.str "server", .str "client"]), ("there", .tup [.str "directory", .str "client"]), ("move", .tup [.str "directory", .str "server"]), ("split", .tup [.str "directory", .str "server"]), ("join", .tup [.str "directory", .str "server"]), ("have", .tup [.str "server", .str "directory"]), ("content", .tup [.str "server", .str "server"]), ("receipt", .tup [.str "server", .str "server"])] && tabNd K tq
abbrev R : PySem.W.OpenRow := PySem.W.OpenLaw.row PySem.Challenge.rw_boundstone_k58_client_step_by_step
abbrev hk : PySem.W.Hook := He.hookX 4 fa fn ts [("fused", none)] ex
def ob (s : PySem.W.SharedT) : He.AlX := He.obsX 4 fa fn ts [("fused", none)] ex (HandSHeadRun.getT s)
theorem ob_eq (s : PySem.W.SharedT) : ob s = hk.obs s.abs := He.obsX_eq (HandSHeadRun.getT_eq s)
def loose : List PySem.Str := (["is_key", "is_bound", "is_range", "below", "contains", "overlap", "is_printable", "is_integer", "kind_of", "is_value", "are_pairs", "_is_pair", "_is_key_alone", "_is_put", "_is_swap", "_is_page", "is_operation", "place", "_is_word_alone", "_is_value_told"] : List PySem.Str) ++ (["_is_page_told", "is_answer", "is_server", "is_client", "is_pairs", "is_rows", "_is_row", "is_number", "_is_ask", "_is_where", "_is_told", "_is_elsewhere", "names_shard", "_names_server", "_is_split", "_is_join", "_is_have", "_is_content", "_is_receipt", "is_letter"] : List PySem.Str) ++ (["_is_party", "check_letter", "apart", "filled", "fused", "_lesser", "_newer", "_law_cell", "_law_rich", "_law_word", "_law_key", "_law_bound", "_law_value", "_law_operation", "_law_part", "_law_letters", "_law_there", "_law_elsewhere", "_law_answer", "_law_strange"] : List PySem.Str) ++ (["_law_call", "_law_pieces", "_law_same", "TableError", "BadOperation", "BadLetter", "BadServer", "MOST_KEY", "MOST_VALUE", "MOST_PAGE", "MOST_SERVERS", "MOST_CLIENTS", "DIRECTORY", "MOST_NUMBER", "BARRED", "OPERATIONS", "ANSWERS", "FORMS", "ROUTES", "Routes"] : List PySem.Str) ++ (["Client"] : List PySem.Str)
theorem run1 (w : World) : HandSHeadRun.RunEq R (PySem.W.view R.prog [90]) hk ob 8000 loose (w.withFollow "special-get-raises" false) := fun os => by kernel_rfl
theorem run2 (w : World) : HandSHeadRun.RunEq R (PySem.W.view R.prog [90]) hk ob 8000 loose (w.withFollow "special-get-raises" true) := fun os => by kernel_rfl
theorem run (w : World) : HandSHeadRun.RunEq R (PySem.W.view R.prog [90]) hk ob 8000 loose w :=
  PySem.W.byRow2 "special-get-raises" (P := fun w => HandSHeadRun.RunEq R (PySem.W.view R.prog [90]) hk ob 8000 loose w) run1 run2 w
end K58
/-! Q: programs as functions over values and a store; what is tracked may change, all else stands. -/
namespace Q
open PySem L2 Evl
abbrev Rho := List (Option W)
/-- what is tracked: lists, dicts (int and text keys; rk, rt: while they are walked), dicts with tuple keys, instances -/
inductive O where
  | ls (ws : List W) | dk (kvs : List (Key × W)) | rk (kvs : List (Key × W)) | dt (kvs : List (List Key × W)) | ins (x : Str) (fs : List (Str × W)) | tb (p : Str × Option Str) (q : Str)
abbrev Mu := Addr → Option O
/-- a tuple of the text -/
def WrT (K : Frag) (a : Addr) (xs : List V) : Prop := ∃ (o : Obj) (its : Array Value) (n : Nat), K.lookup a = some o ∧ o.cls = .type "tuple" ∧ o.data = .seq its n ∧ its.size ≤ sizeLine ∧ Vals xs its.toList
def TupAt (K : Frag) (H : Hp) (μ : Mu) (a : Addr) (vs : List V) : Prop := (H a = some (.tup vs) ∧ μ a = none) ∨ WrT K a vs
def LstAt (H : Hp) (μ : Mu) (a : Addr) (vs : List V) : Prop := H a = some (.lst vs) ∧ μ a = none
def RolAt (H : Hp) (μ : Mu) (a : Addr) (vs : List V) : Prop := Rd H a (.lst vs) ∧ μ a = none
mutual
inductive Rw (K : Frag) (H : Hp) (μ : Mu) : V → W → Prop
  | non : Rw K H μ .non .non
  | bl (b : Bool) : Rw K H μ (.bl b) (.bl b)
  | int (i : Int) : Rw K H μ (.int i) (.int i)
  | str (x : Str) : Rw K H μ (.str x) (.str x)
  | ref (a : Addr) : Rw K H μ (.ref a) (.ref a)
  | fn (x : Str) : Rw K H μ (.ref (He.ga K x)) (.fn x)
  | tup {a : Addr} {vs : List V} {ws : List W} : TupAt K H μ a vs → RwAll K H μ vs ws → Rw K H μ (.ref a) (.tup ws)
  | lst {a : Addr} {vs : List V} {ws : List W} : LstAt H μ a vs → RwAll K H μ vs ws → Rw K H μ (.ref a) (.lst ws)
  | rol {a : Addr} {vs : List V} {ws : List W} : RolAt H μ a vs → RwAll K H μ vs ws → Rw K H μ (.ref a) (.rol ws)
  | exc {a : Addr} {c : Str} : Rw K H μ (.ref a) (.exc a none c [])
  | excf {a d : Addr} {c : Str} {fv : List (Str × V)} {fs : List (Str × W)} : H d = some (.xd fv) → μ d = none → RwF K H μ fv fs → Rw K H μ (.ref a) (.exc a (some d) c fs)
inductive RwAll (K : Frag) (H : Hp) (μ : Mu) : List V → List W → Prop
  | nil : RwAll K H μ [] []
  | cons {v : V} {vs : List V} {w : W} {ws : List W} : Rw K H μ v w → RwAll K H μ vs ws → RwAll K H μ (v :: vs) (w :: ws)
inductive RwF (K : Frag) (H : Hp) (μ : Mu) : List (Str × V) → List (Str × W) → Prop
  | nil : RwF K H μ [] []
  | cons {f : Str} {v : V} {vs : List (Str × V)} {w : W} {ws : List (Str × W)} : Rw K H μ v w → RwF K H μ vs ws → RwF K H μ ((f, v) :: vs) ((f, w) :: ws)
end
/-- from (μ, H) to (μ', H'): what was there and not tracked stands and is not tracked -/
structure Stp (μ : Mu) (H : Hp) (μ' : Mu) (H' : Hp) : Prop where
  st : ∀ a o, H a = some o → μ a = none → H' a = some o ∧ μ' a = none
  fz : ∀ a o u, H a = some (.frz o u) → H' a = some (.frz o u)
theorem Stp.refl (μ : Mu) (H : Hp) : Stp μ H μ H := ⟨fun _ _ h q => ⟨h, q⟩, fun _ _ _ h => h⟩
theorem Stp.trans {μ μ1 μ2 : Mu} {H H1 H2 : Hp} (a : Stp μ H μ1 H1) (b : Stp μ1 H1 μ2 H2) : Stp μ H μ2 H2 := ⟨fun c o h q => b.st c o (a.st c o h q).1 (a.st c o h q).2, fun c o u h => b.fz c o u (a.fz c o u h)⟩
/-- what is not tracked stands -/
abbrev Sto (μ : Mu) (H : Hp) (μ' : Mu) (H' : Hp) : Prop := ∀ a o, H a = some o → μ a = none → H' a = some o ∧ μ' a = none
theorem sto_rd {μ μ' : Mu} {H H' : Hp} (e : Sto μ H μ' H') {a : Addr} {u : HO} (h : Rd H a u) (q : μ a = none) : Rd H' a u ∧ μ' a = none := by
  rcases h with h | ⟨o, h⟩
  · exact ⟨.inl (e a _ h q).1, (e a _ h q).2⟩
  · exact ⟨.inr ⟨o, (e a _ h q).1⟩, (e a _ h q).2⟩
mutual
theorem Rw.sto {K : Frag} {μ μ' : Mu} {H H' : Hp} (e : Sto μ H μ' H') : ∀ {v : V} {w : W}, Rw K H μ v w → Rw K H' μ' v w
  | _, _, .non => .non
  | _, _, .bl b => .bl b
  | _, _, .int i => .int i
  | _, _, .str x => .str x
  | _, _, .ref a => .ref a
  | _, _, .fn x => .fn x
  | _, _, .tup (.inl h) hs => .tup (.inl (e _ _ h.1 h.2)) (RwAll.sto e hs)
  | _, _, .tup (.inr h) hs => .tup (.inr h) (RwAll.sto e hs)
  | _, _, .lst h hs => .lst (e _ _ h.1 h.2) (RwAll.sto e hs)
  | _, _, .rol h hs => .rol (sto_rd e h.1 h.2) (RwAll.sto e hs)
  | _, _, .exc => .exc
  | _, _, .excf h q hs => .excf (e _ _ h q).1 (e _ _ h q).2 (RwF.sto e hs)
theorem RwAll.sto {K : Frag} {μ μ' : Mu} {H H' : Hp} (e : Sto μ H μ' H') : ∀ {vs : List V} {ws : List W}, RwAll K H μ vs ws → RwAll K H' μ' vs ws
  | _, _, .nil => .nil
  | _, _, .cons h hs => .cons (Rw.sto e h) (RwAll.sto e hs)
theorem RwF.sto {K : Frag} {μ μ' : Mu} {H H' : Hp} (e : Sto μ H μ' H') : ∀ {vs : List (Str × V)} {ws : List (Str × W)}, RwF K H μ vs ws → RwF K H' μ' vs ws
  | _, _, .nil => .nil
  | _, _, .cons h hs => .cons (Rw.sto e h) (RwF.sto e hs)
end
theorem Rw.stp {K : Frag} {μ μ' : Mu} {H H' : Hp} (e : Stp μ H μ' H') {v : V} {w : W} (h : Rw K H μ v w) : Rw K H' μ' v w := h.sto e.st
theorem RwAll.stp {K : Frag} {μ μ' : Mu} {H H' : Hp} (e : Stp μ H μ' H') {v : List V} {w : List W} (h : RwAll K H μ v w) : RwAll K H' μ' v w := h.sto e.st
theorem RwF.stp {K : Frag} {μ μ' : Mu} {H H' : Hp} (e : Stp μ H μ' H') {v : List (Str × V)} {w : List (Str × W)} (h : RwF K H μ v w) : RwF K H' μ' v w := h.sto e.st
theorem RwAll.len {K : Frag} {H : Hp} {μ : Mu} : ∀ {vs : List V} {ws : List W}, RwAll K H μ vs ws → vs.length = ws.length
  | _, _, .nil => rfl
  | _, _, .cons _ hs => congrArg Nat.succ hs.len
theorem RwAll.at {K : Frag} {H : Hp} {μ : Mu} : ∀ {vs : List V} {ws : List W} (i : Nat) {w : W}, RwAll K H μ vs ws → ws[i]? = some w → ∃ v, vs[i]? = some v ∧ Rw K H μ v w
  | _, _, i, w, .nil, e => by simp at e
  | _, _, 0, w, .cons h _, e => by
    cases e
    exact ⟨_, rfl, h⟩
  | _, _, i + 1, w, .cons _ hs, e => RwAll.at i hs e
theorem RwAll.app {K : Frag} {H : Hp} {μ : Mu} : ∀ {vs us : List V} {ws xs : List W}, RwAll K H μ vs ws → RwAll K H μ us xs → RwAll K H μ (vs ++ us) (ws ++ xs)
  | _, _, _, _, .nil, g => g
  | _, _, _, _, .cons h hs, g => .cons h (RwAll.app hs g)
theorem RwAll.take {K : Frag} {H : Hp} {μ : Mu} : ∀ {vs : List V} {ws : List W} (n : Nat), RwAll K H μ vs ws → RwAll K H μ (vs.take n) (ws.take n)
  | _, _, 0, _ => .nil
  | _, _, _ + 1, .nil => .nil
  | _, _, n + 1, .cons h hs => .cons h (RwAll.take n hs)
theorem RwAll.drop {K : Frag} {H : Hp} {μ : Mu} : ∀ {vs : List V} {ws : List W} (n : Nat), RwAll K H μ vs ws → RwAll K H μ (vs.drop n) (ws.drop n)
  | _, _, 0, h => h
  | _, _, _ + 1, .nil => .nil
  | _, _, n + 1, .cons _ hs => RwAll.drop n hs
theorem RwAll.set {K : Frag} {H : Hp} {μ : Mu} {x : V} {y : W} (h : Rw K H μ x y) : ∀ {vs : List V} {ws : List W} (i : Nat), RwAll K H μ vs ws → RwAll K H μ (vs.set i x) (ws.set i y)
  | _, _, _, .nil => .nil
  | _, _, 0, .cons _ hs => .cons h hs
  | _, _, i + 1, .cons g hs => .cons g (RwAll.set h i hs)
theorem RwAll.ins {K : Frag} {H : Hp} {μ : Mu} {x : V} {y : W} (h : Rw K H μ x y) : ∀ {vs : List V} {ws : List W} (i : Nat), RwAll K H μ vs ws → RwAll K H μ (vs.take i ++ x :: vs.drop i) (ws.take i ++ y :: ws.drop i) :=
  fun i r => (r.take i).app (.cons h (r.drop i))
theorem RwAll.one {K : Frag} {H : Hp} {μ : Mu} {vs : List V} {x : W} (h : RwAll K H μ vs [x]) : ∃ v, vs = [v] ∧ Rw K H μ v x := by
  cases h with
  | cons a b =>
    cases b
    exact ⟨_, rfl, a⟩
theorem RwAll.two {K : Frag} {H : Hp} {μ : Mu} {vs : List V} {x y : W} (h : RwAll K H μ vs [x, y]) : ∃ v w, vs = [v, w] ∧ Rw K H μ v x ∧ Rw K H μ w y := by
  cases h with
  | cons a b =>
    obtain ⟨w, rfl, c⟩ := RwAll.one b
    exact ⟨_, w, rfl, a, c⟩
theorem rw_ints {K : Frag} {H : Hp} {μ : Mu} : ∀ ns : List Int, RwAll K H μ (ns.map V.int) (ns.map W.int)
  | [] => .nil
  | i :: r => .cons (.int i) (rw_ints r)
theorem rw_strs {K : Frag} {H : Hp} {μ : Mu} : ∀ ns : List Str, RwAll K H μ (ns.map V.str) (ns.map W.str)
  | [] => .nil
  | i :: r => .cons (.str i) (rw_strs r)
theorem ints_of {K : Frag} {H : Hp} {μ : Mu} : ∀ {vs : List V} {ns : List Int}, RwAll K H μ vs (ns.map W.int) → vs = ns.map V.int
  | _, [], h => by
    cases h
    rfl
  | _, n :: r, h => by
    cases h with
    | cons a b =>
      cases a
      rw [ints_of b]
      rfl
/-- pairs with keys of any kind -/
inductive RwP (K : Frag) (H : Hp) (μ : Mu) {κ : Type} : List (κ × V) → List (κ × W) → Prop
  | nil : RwP K H μ [] []
  | cons {k : κ} {v : V} {vs : List (κ × V)} {w : W} {ws : List (κ × W)} : Rw K H μ v w → RwP K H μ vs ws → RwP K H μ ((k, v) :: vs) ((k, w) :: ws)
theorem RwF.p {K : Frag} {H : Hp} {μ : Mu} : ∀ {vs : List (Str × V)} {ws : List (Str × W)}, RwF K H μ vs ws → RwP K H μ vs ws
  | _, _, .nil => .nil
  | _, _, .cons h hs => .cons h hs.p
theorem RwP.sto {K : Frag} {μ μ' : Mu} {H H' : Hp} {κ : Type} (e : Sto μ H μ' H') : ∀ {vs : List (κ × V)} {ws : List (κ × W)}, RwP K H μ vs ws → RwP K H' μ' vs ws
  | _, _, .nil => .nil
  | _, _, .cons h hs => .cons (h.sto e) (RwP.sto e hs)
theorem RwP.stp {K : Frag} {μ μ' : Mu} {H H' : Hp} {κ : Type} (e : Stp μ H μ' H') {vs : List (κ × V)} {ws : List (κ × W)} (h : RwP K H μ vs ws) : RwP K H' μ' vs ws := h.sto e.st
theorem RwP.len {K : Frag} {H : Hp} {μ : Mu} {κ : Type} : ∀ {vs : List (κ × V)} {ws : List (κ × W)}, RwP K H μ vs ws → vs.length = ws.length
  | _, _, .nil => rfl
  | _, _, .cons _ hs => congrArg Nat.succ hs.len
theorem RwP.keys {K : Frag} {H : Hp} {μ : Mu} {κ : Type} : ∀ {vs : List (κ × V)} {ws : List (κ × W)}, RwP K H μ vs ws → vs.map (·.1) = ws.map (·.1)
  | _, _, .nil => rfl
  | _, _, .cons _ hs => congrArg _ hs.keys
def RelO (K : Frag) (H : Hp) (μ : Mu) (a : Addr) : O → Prop
  | .ls ws => ∃ vs, H a = some (.lst vs) ∧ RwAll K H μ vs ws
  | .dk kvs => ∃ kv, H a = some (.dK kv) ∧ RwP K H μ kv kvs
  | .rk kvs => ∃ o kv, H a = some (.frz o (.dK kv)) ∧ RwP K H μ kv kvs
  | .dt kvs => ∃ kv, H a = some (.dT kv) ∧ RwP K H μ kv kvs
  | .ins x fs => ∃ dx fv, H a = some (.ins (He.ga K x) dx fv) ∧ RwP K H μ fv fs
  | .tb p q => a = (He.cT K p).2 ∧ ∃ ps : Array Value, H a = some (.tbl ps) ∧ TriplesOk ps.toList ∧ ∀ (pos : Pos) (cv : Value), codeAmong pos ps.toList = some cv → ∃ c, cv = .ref c ∧ H c = some (LamX.CodeO c q) ∧ μ c = none
theorem RelO.sto {K : Frag} {μ μ' : Mu} {H H' : Hp} (e : Sto μ H μ' H') {a : Addr} {o : O} (q : H' a = H a) (h : RelO K H μ a o) : RelO K H' μ' a o := by
  cases o with
  | ls ws => exact h.imp fun vs h => ⟨q.trans h.1, h.2.sto e⟩
  | dk kvs => exact h.imp fun vs h => ⟨q.trans h.1, h.2.sto e⟩
  | rk kvs => exact h.imp fun o h => h.imp fun vs h => ⟨q.trans h.1, h.2.sto e⟩
  | dt kvs => exact h.imp fun vs h => ⟨q.trans h.1, h.2.sto e⟩
  | ins x fs => exact h.imp fun dx h => h.imp fun fv h => ⟨q.trans h.1, h.2.sto e⟩
  | tb p y =>
    obtain ⟨ea, ps, h1, h2, h3⟩ := h
    refine ⟨ea, ps, q.trans h1, h2, fun pos cv hc => ?_⟩
    obtain ⟨c, e1, e2, e3⟩ := h3 pos cv hc
    exact ⟨c, e1, e c _ e2 e3⟩
theorem RelO.stp {K : Frag} {μ μ' : Mu} {H H' : Hp} (e : Stp μ H μ' H') {a : Addr} {o : O} (q : H' a = H a) (h : RelO K H μ a o) : RelO K H' μ' a o := h.sto e.st q
theorem RelO.there {K : Frag} {H : Hp} {μ : Mu} {a : Addr} {o : O} (h : RelO K H μ a o) : ∃ u, H a = some u := by
  cases o with
  | ls ws => exact h.elim fun vs h => ⟨_, h.1⟩
  | dk kvs => exact h.elim fun vs h => ⟨_, h.1⟩
  | rk kvs => exact h.elim fun o h => h.elim fun vs h => ⟨_, h.1⟩
  | dt kvs => exact h.elim fun vs h => ⟨_, h.1⟩
  | ins x fs => exact h.elim fun dx h => h.elim fun vs h => ⟨_, h.1⟩
  | tb p y => exact h.elim fun ea h => h.elim fun ps h => ⟨_, h.1⟩
def Mem (K : Frag) (H : Hp) (μ : Mu) : Prop := ∀ a o, μ a = some o → RelO K H μ a o
theorem Mem.free {K : Frag} {H : Hp} {μ : Mu} (m : Mem K H μ) {p : Addr} (h : H p = none) : μ p = none := by
  cases q : μ p with
  | none => rfl
  | some o =>
    obtain ⟨u, hu⟩ := (m p o q).there
    rw [h] at hu
    cases hu
def mset (μ : Mu) (a : Addr) (o : O) : Mu := fun b => if b = a then some o else μ b
theorem mset_same {μ : Mu} {a : Addr} {o : O} : mset μ a o a = some o := if_pos rfl
theorem mset_ne {μ : Mu} {a b : Addr} {o : O} (h : b ≠ a) : mset μ a o b = μ b := if_neg h
theorem mset_mset {μ : Mu} {a : Addr} {o u : O} : mset (mset μ a o) a u = mset μ a u := by
  funext b
  unfold mset
  split <;> rfl
theorem mset_comm {μ : Mu} {a b : Addr} {o u : O} (h : a ≠ b) : mset (mset μ a o) b u = mset (mset μ b u) a o := by
  funext c
  unfold mset
  by_cases h1 : c = a
  · by_cases h2 : c = b
    · exact absurd (h1.symm.trans h2) h
    · rw [if_neg h2, if_pos h1, if_pos h1]
  · by_cases h2 : c = b
    · rw [if_pos h2, if_neg h1, if_pos h2]
    · rw [if_neg h2, if_neg h1, if_neg h1, if_neg h2]
theorem mset_self {μ : Mu} {a : Addr} {o : O} (h : μ a = some o) : mset μ a o = μ := by
  funext b
  unfold mset
  split
  · rename_i e
    rw [e, h]
  · rfl
/-- a new object that is not tracked -/
theorem Stp.new {μ : Mu} {H : Hp} {p : Addr} {u : HO} (h : H p = none) : Stp μ H μ (upd H p u) := ⟨fun a o q n => ⟨by rw [upd_ne (ne_of_none q h)]; exact q, n⟩, fun a o v q => by rw [upd_ne (ne_of_none q h)]; exact q⟩
theorem Stp.newT {μ : Mu} {H : Hp} {p : Addr} {u : HO} {o : O} (h : H p = none) : Stp μ H (mset μ p o) (upd H p u) := ⟨fun a x q n => ⟨by rw [upd_ne (ne_of_none q h)]; exact q, by rw [mset_ne (ne_of_none q h)]; exact n⟩, fun a o v q => by rw [upd_ne (ne_of_none q h)]; exact q⟩
/-- a tracked object is changed -/
def noFz (H : Hp) (a : Addr) : Prop := ∀ o u, H a ≠ some (.frz o u)
theorem Stp.put {μ : Mu} {H : Hp} {a : Addr} {u : HO} {o o' : O} (h : μ a = some o) (nf : noFz H a) : Stp μ H (mset μ a o') (upd H a u) := ⟨fun b x q n => by
  have ne : b ≠ a := fun e => by
    rw [e, h] at n
    cases n
  exact ⟨by rw [upd_ne ne]; exact q, by rw [mset_ne ne]; exact n⟩, fun b x v q => by
  have ne : b ≠ a := fun e => nf x v (by rw [← e]; exact q)
  rw [upd_ne ne]
  exact q⟩
theorem nf_lst {H : Hp} {a : Addr} {vs : List V} (h : H a = some (.lst vs)) : noFz H a := fun o u q => by
  rw [h] at q
  cases q
theorem nf_dk {H : Hp} {a : Addr} {vs : List (Key × V)} (h : H a = some (.dK vs)) : noFz H a := fun o u q => by
  rw [h] at q
  cases q
theorem nf_ins {H : Hp} {a C dx : Addr} {fs : List (Str × V)} (h : H a = some (.ins C dx fs)) : noFz H a := fun o u q => by
  rw [h] at q
  cases q
theorem Mem.sto {K : Frag} {H H' : Hp} {μ μ' : Mu} (m : Mem K H μ) (e : Sto μ H μ' H') (k : ∀ b o, μ' b = some o → (μ b = some o ∧ H' b = H b) ∨ RelO K H' μ' b o) : Mem K H' μ' := fun b o q => by
  rcases k b o q with ⟨q1, q2⟩ | r
  · exact (m b o q1).sto e q2
  · exact r
theorem Mem.step {K : Frag} {H H' : Hp} {μ μ' : Mu} (m : Mem K H μ) (e : Stp μ H μ' H') (k : ∀ b o, μ' b = some o → (μ b = some o ∧ H' b = H b) ∨ RelO K H' μ' b o) : Mem K H' μ' := m.sto e.st k
theorem Mem.new {K : Frag} {H : Hp} {μ : Mu} {p : Addr} {u : HO} (m : Mem K H μ) (h : H p = none) : Mem K (upd H p u) μ := m.step (Stp.new h) fun b o q => .inl ⟨q, upd_ne fun e => by
  rw [e, m.free h] at q
  cases q⟩
theorem Mem.put {K : Frag} {H : Hp} {μ : Mu} {a : Addr} {u : HO} {o : O} (m : Mem K H μ) (e : Stp μ H (mset μ a o) (upd H a u)) (r : RelO K (upd H a u) (mset μ a o) a o) : Mem K (upd H a u) (mset μ a o) := m.step e fun b x q => by
  by_cases hb : b = a
  · subst hb
    rw [mset_same] at q
    cases q
    exact .inr r
  · rw [mset_ne hb] at q
    exact .inl ⟨q, upd_ne hb⟩
/-! slots -/
def Holds (K : Frag) (H : Hp) (μ : Mu) (σ : L2.St) (ρ : Rho) : Prop := σ.length = ρ.length ∧ ∀ (i : Nat) (d : W), ρ[i]? = some (some d) → ∃ v, σ[i]? = some (some v) ∧ Rw K H μ v d
theorem Holds.sto {K : Frag} {H H' : Hp} {μ μ' : Mu} {σ : L2.St} {ρ : Rho} (e : Sto μ H μ' H') (h : Holds K H μ σ ρ) : Holds K H' μ' σ ρ :=
  ⟨h.1, fun i d q => (h.2 i d q).imp fun _ z => ⟨z.1, z.2.sto e⟩⟩
theorem Holds.stp {K : Frag} {H H' : Hp} {μ μ' : Mu} {σ : L2.St} {ρ : Rho} (e : Stp μ H μ' H') (h : Holds K H μ σ ρ) : Holds K H' μ' σ ρ := h.sto e.st
theorem Holds.put {K : Frag} {H : Hp} {μ : Mu} {σ : L2.St} {ρ : Rho} {v : V} {d : W} (i : Nat) (h : Holds K H μ σ ρ) (hv : Rw K H μ v d) : Holds K H μ (σ.set i (some v)) (ρ.set i (some d)) := by
  refine ⟨by rw [List.length_set, List.length_set, h.1], fun j e q => ?_⟩
  rw [List.getElem?_set] at q ⊢
  by_cases hij : i = j
  · subst hij
    rw [if_pos rfl] at q ⊢
    rw [h.1]
    by_cases hl : i < ρ.length
    · rw [if_pos hl] at q ⊢
      cases q
      exact ⟨v, rfl, hv⟩
    · rw [if_neg hl] at q
      cases q
  · rw [if_neg hij] at q ⊢
    exact h.2 j e q
theorem Holds.hide {K : Frag} {H : Hp} {μ : Mu} {σ : L2.St} {ρ : Rho} {v : Option V} (i : Nat) (h : Holds K H μ σ ρ) : Holds K H μ (σ.set i v) (ρ.set i none) := by
  refine ⟨by rw [List.length_set, List.length_set, h.1], fun j e q => ?_⟩
  rw [List.getElem?_set] at q ⊢
  by_cases hij : i = j
  · subst hij
    rw [if_pos rfl] at q
    split at q <;> cases q
  · rw [if_neg hij] at q ⊢
    exact h.2 j e q
theorem Holds.start {K : Frag} {H : Hp} {μ : Mu} {N : List Str} {vs : List V} {ds : List W} (h : RwAll K H μ vs ds) : Holds K H μ (L2.start N vs) (ds.map some ++ List.replicate (N.length - ds.length) none) := by
  have hl := h.len
  refine ⟨by unfold L2.start; simp [hl], fun i d q => ?_⟩
  unfold L2.start
  by_cases hi : i < ds.length
  · rw [List.getElem?_append_left (by simpa using hi), List.getElem?_map] at q
    rw [List.getElem?_append_left (by simpa [hl] using hi), List.getElem?_map]
    cases e : ds[i]? with
    | none =>
      rw [e] at q
      cases q
    | some d' =>
      rw [e] at q
      cases q
      obtain ⟨v, e1, e2⟩ := RwAll.at i h e
      exact ⟨v, by rw [e1]; rfl, e2⟩
  · rw [List.getElem?_append_right (by simpa using hi)] at q
    rw [List.getElem?_replicate] at q
    split at q <;> cases q
/-! forgetting, and lists that become values -/
mutual
inductive Fz (μ μ' : Mu) : W → W → Prop
  | same (w : W) : Fz μ μ' w w
  | lst {p : Addr} {ws us : List W} : μ p = some (.ls ws) → μ' p = none → FzAll μ μ' ws us → Fz μ μ' (.ref p) (.lst us)
  | tup {ws us : List W} : FzAll μ μ' ws us → Fz μ μ' (.tup ws) (.tup us)
  | inl {ws us : List W} : FzAll μ μ' ws us → Fz μ μ' (.lst ws) (.lst us)
inductive FzAll (μ μ' : Mu) : List W → List W → Prop
  | same (ws : List W) : FzAll μ μ' ws ws
  | cons {w u : W} {ws us : List W} : Fz μ μ' w u → FzAll μ μ' ws us → FzAll μ μ' (w :: ws) (u :: us)
end
/-- μ' holds less than μ -/
def Sub (μ' μ : Mu) : Prop := ∀ a o, μ' a = some o → μ a = some o
theorem Sub.refl (μ : Mu) : Sub μ μ := fun _ _ h => h
theorem Sub.trans {μ μ1 μ2 : Mu} (a : Sub μ2 μ1) (b : Sub μ1 μ) : Sub μ2 μ := fun c o h => b c o (a c o h)
theorem Sub.new {μ : Mu} {p : Addr} {o : O} (h : μ p = none) : Sub μ (mset μ p o) := fun a u e => by
  rw [mset_ne fun z => by
    rw [z, h] at e
    cases e]
  exact e
theorem Sub.none {μ μ' : Mu} (s : Sub μ' μ) {a : Addr} (h : μ a = none) : μ' a = none := by
  cases e : μ' a with
  | none => rfl
  | some o =>
    rw [s a o e] at h
    cases h
theorem Sub.stp {μ μ' : Mu} (s : Sub μ' μ) (H : Hp) : Stp μ H μ' H := ⟨fun _ _ h q => ⟨h, s.none q⟩, fun _ _ _ h => h⟩
theorem Sub.mem {K : Frag} {H : Hp} {μ μ' : Mu} (s : Sub μ' μ) (m : Mem K H μ) : Mem K H μ' := m.step (s.stp H) fun b o q => .inl ⟨s b o q, rfl⟩
mutual
theorem Fz.rw {K : Frag} {H : Hp} {μ μ' : Mu} (s : Sub μ' μ) (m : Mem K H μ) : ∀ {w u : W} {v : V}, Fz μ μ' w u → Rw K H μ v w → Rw K H μ' v u
  | _, _, _, .same _, h => h.stp (s.stp H)
  | _, _, _, .lst e n z, h => by
    cases h
    obtain ⟨vs, e1, e2⟩ := m _ _ e
    exact .lst ⟨e1, n⟩ (FzAll.rw s m z e2)
  | _, _, _, .tup z, h => by
    cases h with
    | tup h hs =>
      refine .tup ?_ (FzAll.rw s m z hs)
      rcases h with h | h
      · exact .inl ⟨h.1, s.none h.2⟩
      · exact .inr h
  | _, _, _, .inl z, h => by
    cases h with
    | lst h hs => exact .lst ⟨h.1, s.none h.2⟩ (FzAll.rw s m z hs)
theorem FzAll.rw {K : Frag} {H : Hp} {μ μ' : Mu} (s : Sub μ' μ) (m : Mem K H μ) : ∀ {ws us : List W} {vs : List V}, FzAll μ μ' ws us → RwAll K H μ vs ws → RwAll K H μ' vs us
  | _, _, _, .same _, h => h.stp (s.stp H)
  | _, _, _, .cons z zs, h => by
    cases h with
    | cons h hs => exact .cons (Fz.rw s m z h) (FzAll.rw s m zs hs)
end
end Q
namespace Q
open PySem L2 Evl
/-! what is asked of a value and a store; of what is raised: the class, its fields -/
abbrev Po := W → Mu → Prop
abbrev Xo := Str → List (Str × W) → Mu → Prop
abbrev FE := Rho → Mu → Po → Xo → Prop
abbrev FA := Rho → Mu → (List W → Mu → Prop) → Xo → Prop
abbrev FT := Rho → Mu → (Bool → Mu → Prop) → Xo → Prop
structure En where
  nx : Rho → Mu → Prop
  rt : Po
  bk : Rho → Mu → Prop
  ct : Rho → Mu → Prop
  ex : Rho → Xo
abbrev FS := Rho → Mu → En → Prop
inductive Pay (K : Frag) (H : Hp) (μ : Mu) : Option Addr → List (Str × W) → Prop
  | none : Pay K H μ none []
  | some {d : Addr} {fv : List (Str × V)} {fs : List (Str × W)} : H d = Option.some (.xd fv) → μ d = Option.none → RwF K H μ fv fs → Pay K H μ (Option.some d) fs
/-- the wish of what is raised is kept -/
def XL (K : Frag) (E : XK) (μ : Mu) (H : Hp) (X : Xo) : Prop := ∀ c fs μ' d H', X c fs μ' → Stp μ H μ' H' → Mem K H' μ' → Pay K H' μ' d fs → E (.ref (He.ga K c)) d H'
theorem XL.stp {K : Frag} {E : XK} {μ μ1 : Mu} {H H1 : Hp} {X : Xo} (e : Stp μ H μ1 H1) (h : XL K E μ H X) : XL K E μ1 H1 X := fun c fs μ' d H' x e2 => h c fs μ' d H' x (e.trans e2)
def VL (K : Frag) (Q : VK) (μ : Mu) (H : Hp) (P : Po) : Prop := ∀ w μ' v H', P w μ' → Stp μ H μ' H' → Mem K H' μ' → Rw K H' μ' v w → Q v H'
def tE (K : Frag) (E : L2.St → XK) (f : FE) : TE := fun σ H Q => ∃ ρ μ P X, Holds K H μ σ ρ ∧ Mem K H μ ∧ f ρ μ P X ∧ VL K Q μ H P ∧ XL K (E σ) μ H X
def tA (K : Frag) (E : L2.St → XK) (f : FA) : TA := fun σ H Q => ∃ ρ μ P X, Holds K H μ σ ρ ∧ Mem K H μ ∧ f ρ μ P X ∧ (∀ ws μ' vs H', P ws μ' → Stp μ H μ' H' → Mem K H' μ' → RwAll K H' μ' vs ws → Q vs H') ∧ XL K (E σ) μ H X
def tT (K : Frag) (E : L2.St → XK) (f : FT) : TT := fun σ H Q => ∃ ρ μ P X, Holds K H μ σ ρ ∧ Mem K H μ ∧ f ρ μ P X ∧ (∀ b μ' H', P b μ' → Stp μ H μ' H' → Mem K H' μ' → Q b H') ∧ XL K (E σ) μ H X
structure EL (K : Frag) (E : L2.St → XK) (D : Ends) (μ : Mu) (H : Hp) (N : En) : Prop where
  nx : ∀ ρ' μ' σ' H', N.nx ρ' μ' → Stp μ H μ' H' → Mem K H' μ' → Holds K H' μ' σ' ρ' → D.nx σ' H'
  rt : VL K D.rt μ H N.rt
  bk : ∀ ρ' μ' σ' H', N.bk ρ' μ' → Stp μ H μ' H' → Mem K H' μ' → Holds K H' μ' σ' ρ' → D.bk σ' H'
  ct : ∀ ρ' μ' σ' H', N.ct ρ' μ' → Stp μ H μ' H' → Mem K H' μ' → Holds K H' μ' σ' ρ' → D.ct σ' H'
  ex : ∀ ρ' c fs μ' d σ' H', N.ex ρ' c fs μ' → Stp μ H μ' H' → Mem K H' μ' → Holds K H' μ' σ' ρ' → Pay K H' μ' d fs → E σ' (.ref (He.ga K c)) d H'
theorem EL.stp {K : Frag} {E : L2.St → XK} {D : Ends} {μ μ1 : Mu} {H H1 : Hp} {N : En} (e : Stp μ H μ1 H1) (h : EL K E D μ H N) : EL K E D μ1 H1 N :=
  ⟨fun ρ' μ' σ' H' n e2 => h.nx ρ' μ' σ' H' n (e.trans e2), fun w μ' v H' n e2 => h.rt w μ' v H' n (e.trans e2), fun ρ' μ' σ' H' n e2 => h.bk ρ' μ' σ' H' n (e.trans e2), fun ρ' μ' σ' H' n e2 => h.ct ρ' μ' σ' H' n (e.trans e2), fun ρ' c fs μ' d σ' H' n e2 => h.ex ρ' c fs μ' d σ' H' n (e.trans e2)⟩
/-- an expression at (ρ, σ) raises into the statement's wish -/
theorem EL.xl {K : Frag} {E : L2.St → XK} {D : Ends} {μ : Mu} {H : Hp} {N : En} {ρ : Rho} {σ : L2.St} (h : EL K E D μ H N) (hh : Holds K H μ σ ρ) : XL K (E σ) μ H (N.ex ρ) := fun c fs μ' d H' x e m p => h.ex ρ c fs μ' d σ H' x e m (hh.stp e) p
def tS (K : Frag) (E : L2.St → XK) (f : FS) : TS := fun D σ H => ∃ ρ μ N, Holds K H μ σ ρ ∧ Mem K H μ ∧ f ρ μ N ∧ EL K E D μ H N
/-! the judgements -/
structure QE (X : Cx) (E : L2.St → XK) (e : Expr) (f : FE) : Prop where
  pe : PE X e (tE X.K E f)
structure QA (X : Cx) (E : L2.St → XK) (es : List Expr) (f : FA) : Prop where
  pa : PA X es (tA X.K E f)
structure QT (X : Cx) (E : L2.St → XK) (e : Expr) (f : FT) : Prop where
  pt : PT X e (tT X.K E f)
structure QW (X : Cx) (E : L2.St → XK) (e : Expr) (f : FT) : Prop where
  pw : PW X e (tT X.K E f)
structure QS (X : Cx) (E : L2.St → XK) (st : Stmt) (f : FS) : Prop where
  ps : PS X st (tS X.K E f)
structure QSs (X : Cx) (E : L2.St → XK) (st : List Stmt) (f : FS) : Prop where
  pss : PSs X st (tS X.K E f)
theorem _root_.L2.PE.qimp {X : Cx} {e : Expr} {t t' : TE} (h : PE X e t) (k : ∀ σ H Q, t' σ H Q → t σ H Q) : PE X e t' := ⟨fun pins s σ H Q I q => h.run pins s σ H Q I (k σ H Q q)⟩
theorem _root_.L2.PA.qimp {X : Cx} {e : List Expr} {t t' : TA} (h : PA X e t) (k : ∀ σ H Q, t' σ H Q → t σ H Q) : PA X e t' := ⟨fun pos pins s σ H Q I q => h.run pos pins s σ H Q I (k σ H Q q)⟩
theorem _root_.L2.PT.qimp {X : Cx} {e : Expr} {t t' : TT} (h : PT X e t) (k : ∀ σ H Q, t' σ H Q → t σ H Q) : PT X e t' := ⟨fun pins s σ H Q I q => h.run pins s σ H Q I (k σ H Q q)⟩
theorem _root_.L2.PW.qimp {X : Cx} {e : Expr} {t t' : TT} (h : PW X e t) (k : ∀ σ H Q, t' σ H Q → t σ H Q) : PW X e t' := ⟨fun wh pins s σ H Q I q => h.run wh pins s σ H Q I (k σ H Q q)⟩
theorem _root_.L2.PS.qimp {X : Cx} {e : Stmt} {t t' : TS} (h : PS X e t) (k : ∀ D σ H, t' D σ H → t D σ H) : PS X e t' := ⟨fun pins s σ H D I q => h.run pins s σ H D I (k D σ H q)⟩
theorem _root_.L2.PSs.qimp {X : Cx} {e : List Stmt} {t t' : TS} (h : PSs X e t) (k : ∀ D σ H, t' D σ H → t D σ H) : PSs X e t' := ⟨fun pins s σ H D I q => h.run pins s σ H D I (k D σ H q)⟩
/-! ### names, constants -/
@[reducible] def gv : Rho → Nat → Option W
  | [], _ => none
  | x :: _, 0 => x
  | _ :: r, n + 1 => gv r n
theorem gv_get : ∀ {ρ : Rho} {i : Nat} {w : W}, gv ρ i = some w → ρ[i]? = some (some w)
  | [], _, _, h => by cases h
  | x :: r, 0, w, h => by
    have h : x = some w := h
    rw [h]
    rfl
  | x :: r, n + 1, w, h => gv_get (ρ := r) (i := n) h
@[reducible] def sv : Rho → Nat → W → Rho
  | [], _, _ => []
  | _ :: r, 0, w => some w :: r
  | x :: r, n + 1, w => x :: sv r n w
theorem sv_set : ∀ (ρ : Rho) (i : Nat) (w : W), sv ρ i w = ρ.set i (some w)
  | [], _, _ => rfl
  | x :: r, 0, w => rfl
  | x :: r, n + 1, w => congrArg (x :: ·) (sv_set r n w)
@[reducible] def hv : Rho → Nat → Rho
  | [], _ => []
  | _ :: r, 0 => none :: r
  | x :: r, n + 1 => x :: hv r n
theorem hv_set : ∀ (ρ : Rho) (i : Nat), hv ρ i = ρ.set i none
  | [], _ => rfl
  | x :: r, 0 => rfl
  | x :: r, n + 1 => congrArg (x :: ·) (hv_set r n)
theorem Holds.sv {K : Frag} {H : Hp} {μ : Mu} {σ : L2.St} {ρ : Rho} {v : V} {d : W} (i : Nat) (h : Holds K H μ σ ρ) (hv : Rw K H μ v d) : Holds K H μ (σ.set i (some v)) (Q.sv ρ i d) := by
  rw [sv_set]
  exact h.put i hv
@[reducible] def eV (i : Nat) : FE := fun ρ μ P _ => match gv ρ i with
  | some w => P w μ
  | none => False
@[reducible] def eC (w : W) : FE := fun _ μ P _ => P w μ
section
variable {X : Cx} {E : L2.St → XK}
theorem qe_var {i : Nat} {x : Str} {pos : Pos} (hN : X.N[i]? = some x) (hv : Vis X.env.scope x) (hd : (x == ("__debug__" : Str)) = false := by decide) (hcd : (x == ("__classdict__" : Str)) = false := by decide) : QE X E (.Name x pos) (eV i) := ⟨(pe_var hN hv hd hcd).qimp fun σ H Q h => by
  obtain ⟨ρ, μ, P, XX, hh, hm, hf, hv, hx⟩ := h
  unfold eV at hf
  split at hf
  · rename_i w e
    obtain ⟨v, e1, e2⟩ := hh.2 i w (gv_get e)
    exact ⟨v, e1, hv w μ v H hf (Stp.refl μ H) hm e2⟩
  · exact hf.elim⟩
theorem qe_of {e : Expr} {v : V} {w : W} (h : PE X e (tC v)) (r : ∀ H μ, Rw X.K H μ v w) : QE X E e (eC w) := ⟨h.qimp fun σ H Q h => by
  obtain ⟨ρ, μ, P, XX, hh, hm, hf, hv, hx⟩ := h
  exact hv w μ v H hf (Stp.refl μ H) hm (r H μ)⟩
theorem qe_int {i j pos} : QE X E (.Constant (.int i) j pos) (eC (.int i)) := qe_of pe_int fun _ _ => .int i
theorem qe_bl {i j pos} : QE X E (.Constant (.bool i) j pos) (eC (.bl i)) := qe_of pe_bl fun _ _ => .bl i
theorem qe_non {j pos} : QE X E (.Constant .none j pos) (eC .non) := qe_of pe_non fun _ _ => .non
theorem qe_str {x j pos} : QE X E (.Constant (.str x) j pos) (eC (.str x)) := qe_of pe_str fun _ _ => .str x
/-- a number that the module names -/
theorem qe_gint {i : Int} {x : Str} {pos : Pos} (hg : Gl X x) (h : ∃ t, X.mg x = some (.int i t)) (hdb : (x == ("__debug__" : Str)) = false := by decide) : QE X E (.Name x pos) (eC (.int i)) := qe_of (v := .int i) (pe_glob hg h.choose_spec ⟨_, rfl⟩ hdb) fun _ _ => .int i
/-! ### operations -/
abbrev F2 := W → W → Mu → Po → Prop
abbrev F1 := W → Mu → Po → Prop
@[reducible] def eOp (o : F2) (a b : FE) : FE := fun ρ μ P X => a ρ μ (fun x μ1 => b ρ μ1 (fun y μ2 => o x y μ2 P) X) X
@[reducible] def eUn (o : F1) (a : FE) : FE := fun ρ μ P X => a ρ μ (fun x μ1 => o x μ1 P) X
def rW (K : Frag) (o : F2) : R2 := fun x y H Q => ∃ wx wy μ P, Rw K H μ x wx ∧ Rw K H μ y wy ∧ Mem K H μ ∧ o wx wy μ P ∧ VL K Q μ H P
def rW1 (K : Frag) (o : F1) : V → Hp → VK → Prop := fun x H Q => ∃ wx μ P, Rw K H μ x wx ∧ Mem K H μ ∧ o wx μ P ∧ VL K Q μ H P
theorem opR_imp {X : Cx} {f : Value → Value → Sem Value} {r r' : R2} (h : OpR X f r) (k : ∀ x y H Q, r' x y H Q → r x y H Q) : OpR X f r' := fun pins s σ H x y v u Q I rx ry q => h pins s σ H x y v u Q I rx ry (k x y H Q q)
theorem unR_imp {X : Cx} {f : Value → Sem Value} {r r' : V → Hp → VK → Prop} (h : UnR X f r) (k : ∀ x H Q, r' x H Q → r x H Q) : UnR X f r' := fun pins s σ H x v Q I rx q => h pins s σ H x v Q I rx (k x H Q q)
theorem tE_two {K : Frag} {r : R2} {o : F2} {fa fb : FE} (hr : ∀ x y H Q, rW K o x y H Q → r x y H Q) {σ : L2.St} {H : Hp} {Q : VK} (h : tE K E (eOp o fa fb) σ H Q) : tOp r (tE K E fa) (tE K E fb) σ H Q := by
  obtain ⟨ρ, μ, P, XX, hh, hm, hf, hv, hx⟩ := h
  exact ⟨ρ, μ, _, XX, hh, hm, hf, fun x μ1 v H1 p1 e1 m1 r1 => ⟨ρ, μ1, _, XX, hh.stp e1, m1, p1, fun y μ2 u H2 p2 e2 m2 r2 => hr v u H2 Q ⟨x, y, μ2, P, r1.stp e2, r2, m2, p2, fun w μ' v' H' p e => hv w μ' v' H' p ((e1.trans e2).trans e)⟩, hx.stp e1⟩, hx⟩
theorem qe_op {op : Operator} {o : F2} {a b : Expr} {fa fb : FE} {pos : Pos} (ho : OpR X (binaryOp op) (rW X.K o)) (ha : QE X E a fa) (hb : QE X E b fb) : QE X E (.BinOp a op b pos) (eOp o fa fb) :=
  ⟨(pe_op ho ha.pe hb.pe).qimp fun σ H Q h => tE_two (fun _ _ _ _ h => h) h⟩
theorem qe_un {op : UnaryOp} {o : F1} {a : Expr} {fa : FE} {pos : Pos} (ho : UnR X (unaryOp op) (rW1 X.K o)) (ha : QE X E a fa) : QE X E (.UnaryOp op a pos) (eUn o fa) := ⟨(pe_un ho ha.pe).qimp fun σ H Q h => by
  obtain ⟨ρ, μ, P, XX, hh, hm, hf, hv, hx⟩ := h
  exact ⟨ρ, μ, _, XX, hh, hm, hf, fun x μ1 v H1 p1 e1 m1 r1 => ⟨x, μ1, P, r1, m1, p1, fun w μ' v' H' p e => hv w μ' v' H' p (e1.trans e)⟩, hx⟩⟩
theorem qe_cmp {op : CmpOp} {o : F2} {a b : Expr} {fa fb : FE} {pos : Pos} (ho : OpR X (compareOp op) (rW X.K o)) (ha : QE X E a fa) (hb : QE X E b fb) (hm : behindInMarks op b = false) : QE X E (.Compare a [op] [b] pos) (eOp o fa fb) :=
  ⟨(pe_cmpR ho ha.pe hb.pe hm).qimp fun σ H Q h => tE_two (fun _ _ _ _ h => h) h⟩
/-! tests -/
@[reducible] def wT (w : W) (k : Bool → Prop) : Prop := match w with
  | .bl b => k b
  | _ => False
@[reducible] def cV (a : FE) : FT := fun ρ μ P X => a ρ μ (fun w μ1 => wT w fun b => P b μ1) X
@[reducible] def cAnd (a b : FT) : FT := fun ρ μ P X => a ρ μ (fun c μ1 => if c = true then b ρ μ1 P X else P false μ1) X
@[reducible] def cOr (a b : FT) : FT := fun ρ μ P X => a ρ μ (fun c μ1 => if c = true then P true μ1 else b ρ μ1 P X) X
@[reducible] def cNot (a : FT) : FT := fun ρ μ P X => a ρ μ (fun c μ1 => P (!c) μ1) X
theorem wT_ok {w : W} {k : Bool → Prop} (h : wT w k) : ∃ b, w = .bl b ∧ k b := by
  cases w <;> first | exact h.elim | exact ⟨_, rfl, h⟩
theorem rw_bl {K : Frag} {H : Hp} {μ : Mu} {v : V} {b : Bool} (h : Rw K H μ v (.bl b)) : v = .bl b := by
  cases h
  rfl
theorem tT_of {K : Frag} {fa : FE} {σ : L2.St} {H : Hp} {Q : Bool → Hp → Prop} (h : tT K E (cV fa) σ H Q) : tE K E fa σ H (fun x H1 => ∃ k, x = .bl k ∧ Q k H1) := by
  obtain ⟨ρ, μ, P, XX, hh, hm, hf, hv, hx⟩ := h
  exact ⟨ρ, μ, _, XX, hh, hm, hf, fun x μ1 v H1 p1 e1 m1 r1 => by
    obtain ⟨b, rfl, p⟩ := wT_ok p1
    exact ⟨b, rw_bl r1, hv b μ1 H1 p e1 m1⟩, hx⟩
theorem qt_val {e : Expr} {f : FE} (h : QE X E e f) (he : ∀ whole, isTrue e X.env whole = (do let v ← whole; standAt e.pos; holding [v] (truthy v)) := by intro _; rfl) : QT X E e (cV f) := ⟨(pt_val h.pe he).qimp fun σ H Q h => tT_of h⟩
theorem qt_cmp {op : CmpOp} {o : F2} {a b : Expr} {fa fb : FE} {pos : Pos} (ho : OpR X (compareOp op) (rW X.K o)) (ha : QE X E a fa) (hb : QE X E b fb) (hm : behindInMarks op b = false) : QT X E (.Compare a [op] [b] pos) (cV (eOp o fa fb)) :=
  ⟨(pt_cmpR ho ha.pe hb.pe hm).qimp fun σ H Q h => by
    have h2 := tT_of h
    exact tE_two (fun _ _ _ _ h => h) h2⟩
theorem QW.qt {e : Expr} {f : FT} (h : QW X E e f) : QT X E e f := ⟨h.pw.pt⟩
theorem qw_and1 {a : Expr} {f : FT} {pos : Pos} (h : QT X E a f) : QW X E (.BoolOp .And [a] pos) f := ⟨pw_and1 h.pt⟩
theorem qw_or1 {a : Expr} {f : FT} {pos : Pos} (h : QT X E a f) : QW X E (.BoolOp .Or [a] pos) f := ⟨pw_or1 h.pt⟩
theorem qw_and {a b : Expr} {rest : List Expr} {fa fb : FT} {pos : Pos} (ha : QT X E a fa) (hb : QW X E (.BoolOp .And (b :: rest) pos) fb) : QW X E (.BoolOp .And (a :: b :: rest) pos) (cAnd fa fb) := ⟨(pw_and ha.pt hb.pw).qimp fun σ H Q h => by
  obtain ⟨ρ, μ, P, XX, hh, hm, hf, hv, hx⟩ := h
  refine ⟨ρ, μ, _, XX, hh, hm, hf, fun c μ1 H1 p1 e1 m1 => ?_, hx⟩
  cases c with
  | true => exact iteT ⟨ρ, μ1, P, XX, hh.stp e1, m1, (if_pos rfl).mp p1, fun b μ' H' p e => hv b μ' H' p (e1.trans e), hx.stp e1⟩
  | false => exact iteF (hv false μ1 H1 ((if_neg (by decide)).mp p1) e1 m1)⟩
theorem qw_or {a b : Expr} {rest : List Expr} {fa fb : FT} {pos : Pos} (ha : QT X E a fa) (hb : QW X E (.BoolOp .Or (b :: rest) pos) fb) : QW X E (.BoolOp .Or (a :: b :: rest) pos) (cOr fa fb) := ⟨(pw_or ha.pt hb.pw).qimp fun σ H Q h => by
  obtain ⟨ρ, μ, P, XX, hh, hm, hf, hv, hx⟩ := h
  refine ⟨ρ, μ, _, XX, hh, hm, hf, fun c μ1 H1 p1 e1 m1 => ?_, hx⟩
  cases c with
  | true => exact iteT (hv true μ1 H1 ((if_pos rfl).mp p1) e1 m1)
  | false => exact iteF ⟨ρ, μ1, P, XX, hh.stp e1, m1, (if_neg (by decide)).mp p1, fun b μ' H' p e => hv b μ' H' p (e1.trans e), hx.stp e1⟩⟩
theorem qt_not {a : Expr} {fa : FT} {pos : Pos} (ha : QT X E a fa) : QT X E (.UnaryOp .Not a pos) (cNot fa) := ⟨(pt_not ha.pt).qimp fun σ H Q h => by
  obtain ⟨ρ, μ, P, XX, hh, hm, hf, hv, hx⟩ := h
  exact ⟨ρ, μ, _, XX, hh, hm, hf, fun c μ1 H1 p1 e1 m1 => hv (!c) μ1 H1 p1 e1 m1, hx⟩⟩
@[reducible] def eIf (c : FT) (a b : FE) : FE := fun ρ μ P X => c ρ μ (fun c μ1 => if c = true then a ρ μ1 P X else b ρ μ1 P X) X
theorem qe_if {c a b : Expr} {fc : FT} {fa fb : FE} {pos : Pos} (hc : QT X E c fc) (ha : QE X E a fa) (hb : QE X E b fb) : QE X E (.IfExp c a b pos) (eIf fc fa fb) := ⟨(pe_ifExp hc.pt ha.pe hb.pe).qimp fun σ H Q h => by
  obtain ⟨ρ, μ, P, XX, hh, hm, hf, hv, hx⟩ := h
  refine ⟨ρ, μ, _, XX, hh, hm, hf, fun c μ1 H1 p1 e1 m1 => ?_, hx⟩
  cases c with
  | true => exact iteT ⟨ρ, μ1, P, XX, hh.stp e1, m1, (if_pos rfl).mp p1, fun w μ' v H' p e => hv w μ' v H' p (e1.trans e), hx.stp e1⟩
  | false => exact iteF ⟨ρ, μ1, P, XX, hh.stp e1, m1, (if_neg (by decide)).mp p1, fun w μ' v H' p e => hv w μ' v H' p (e1.trans e), hx.stp e1⟩⟩
/-! and, or, not as values -/
@[reducible] def eAnd (a b : FE) : FE := fun ρ μ P X => a ρ μ (fun w μ1 => wT w fun c => if c = true then b ρ μ1 P X else P (.bl false) μ1) X
@[reducible] def eOr (a b : FE) : FE := fun ρ μ P X => a ρ μ (fun w μ1 => wT w fun c => if c = true then P (.bl true) μ1 else b ρ μ1 P X) X
theorem qe_one {op : BoolOp} {a : Expr} {f : FE} {pos : Pos} (h : QE X E a f) : QE X E (.BoolOp op [a] pos) f := ⟨pe_one h.pe⟩
theorem qe_and {a b : Expr} {rest : List Expr} {fa fb : FE} {pos : Pos} (ha : QE X E a fa) (hb : QE X E (.BoolOp .And (b :: rest) pos) fb) : QE X E (.BoolOp .And (a :: b :: rest) pos) (eAnd fa fb) := ⟨(pe_and ha.pe hb.pe).qimp fun σ H Q h => by
  obtain ⟨ρ, μ, P, XX, hh, hm, hf, hv, hx⟩ := h
  refine ⟨ρ, μ, _, XX, hh, hm, hf, fun c μ1 v H1 p1 e1 m1 r1 => ?_, hx⟩
  obtain ⟨b, rfl, p⟩ := wT_ok p1
  refine ⟨b, rw_bl r1, ?_⟩
  cases b with
  | true => exact iteT ⟨ρ, μ1, P, XX, hh.stp e1, m1, (if_pos rfl).mp p, fun w μ' v H' p e => hv w μ' v H' p (e1.trans e), hx.stp e1⟩
  | false => exact iteF (hv _ μ1 _ H1 ((if_neg (by decide)).mp p) e1 m1 (.bl _))⟩
theorem qe_or {a b : Expr} {rest : List Expr} {fa fb : FE} {pos : Pos} (ha : QE X E a fa) (hb : QE X E (.BoolOp .Or (b :: rest) pos) fb) : QE X E (.BoolOp .Or (a :: b :: rest) pos) (eOr fa fb) := ⟨(pe_or ha.pe hb.pe).qimp fun σ H Q h => by
  obtain ⟨ρ, μ, P, XX, hh, hm, hf, hv, hx⟩ := h
  refine ⟨ρ, μ, _, XX, hh, hm, hf, fun c μ1 v H1 p1 e1 m1 r1 => ?_, hx⟩
  obtain ⟨b, rfl, p⟩ := wT_ok p1
  refine ⟨b, rw_bl r1, ?_⟩
  cases b with
  | true => exact iteT (hv _ μ1 _ H1 ((if_pos rfl).mp p) e1 m1 (.bl _))
  | false => exact iteF ⟨ρ, μ1, P, XX, hh.stp e1, m1, (if_neg (by decide)).mp p, fun w μ' v H' p e => hv w μ' v H' p (e1.trans e), hx.stp e1⟩⟩
/-- a < b < c -/
@[reducible] def eChain (o o' : F2) (a b c : FE) : FE := fun ρ μ P X => a ρ μ (fun x μ1 => b ρ μ1 (fun y μ2 => o x y μ2 (fun z μ3 => wT z fun k => if k = true then c ρ μ3 (fun u μ4 => o' y u μ4 P) X else P (.bl false) μ3)) X) X
theorem tE_chain {K : Frag} {o o' : F2} {fa fb fc : FE} {σ : L2.St} {H : Hp} {Q : VK} (h : tE K E (eChain o o' fa fb fc) σ H Q) : tChain (rW K o) (rW K o') (tE K E fa) (tE K E fb) (tE K E fc) σ H Q := by
  obtain ⟨ρ, μ, P, XX, hh, hm, hf, hv, hx⟩ := h
  refine ⟨ρ, μ, _, XX, hh, hm, hf, fun x μ1 v H1 p1 e1 m1 r1 => ⟨ρ, μ1, _, XX, hh.stp e1, m1, p1, fun y μ2 u H2 p2 e2 m2 r2 => ⟨x, y, μ2, _, r1.stp e2, r2, m2, p2, fun z μ3 v3 H3 p3 e3 m3 r3 => ?_⟩, hx.stp e1⟩, hx⟩
  obtain ⟨b, rfl, p⟩ := wT_ok p3
  refine ⟨b, rw_bl r3, ?_⟩
  have e13 := (e1.trans e2).trans e3
  cases b with
  | true => exact iteT ⟨ρ, μ3, _, XX, hh.stp e13, m3, (if_pos rfl).mp p, fun w μ4 v4 H4 p4 e4 m4 r4 => ⟨y, w, μ4, P, r2.stp (e3.trans e4), r4, m4, p4, fun w μ' v' H' p e => hv w μ' v' H' p ((e13.trans e4).trans e)⟩, hx.stp e13⟩
  | false => exact iteF (hv _ μ3 _ H3 ((if_neg (by decide)).mp p) e13 m3 (.bl _))
theorem qe_chain {op op' : CmpOp} {o o' : F2} {a b c : Expr} {fa fb fc : FE} {pos : Pos} (ho : OpR X (compareOp op) (rW X.K o)) (ho' : OpR X (compareOp op') (rW X.K o')) (ha : QE X E a fa) (hb : QE X E b fb) (hc : QE X E c fc) (k : PE X (.Compare a [op, op'] [b, c] pos) (tChain (rW X.K o) (rW X.K o') (tE X.K E fa) (tE X.K E fb) (tE X.K E fc))) : QE X E (.Compare a [op, op'] [b, c] pos) (eChain o o' fa fb fc) := ⟨k.qimp fun σ H Q h => tE_chain h⟩
/-! ### arguments, tuples, lists -/
@[reducible] def aNil : FA := fun _ μ P _ => P [] μ
@[reducible] def aCons (a : FE) (r : FA) : FA := fun ρ μ P X => a ρ μ (fun w μ1 => r ρ μ1 (fun ws μ2 => P (w :: ws) μ2) X) X
theorem qa_nil : QA X E [] aNil := ⟨(pa_nil (X := X)).qimp fun σ H Q h => by
  obtain ⟨ρ, μ, P, XX, hh, hm, hf, hv, hx⟩ := h
  exact hv [] μ [] H hf (Stp.refl μ H) hm .nil⟩
theorem qa_cons {e : Expr} {es : List Expr} {fa : FE} {fr : FA} (ha : QE X E e fa) (hr : QA X E es fr) (hs : starEach (e :: es) X.env = (false, eval e X.env) :: starEach es X.env := by rfl) : QA X E (e :: es) (aCons fa fr) := ⟨(pa_cons ha.pe hr.pa hs).qimp fun σ H Q h => by
  obtain ⟨ρ, μ, P, XX, hh, hm, hf, hv, hx⟩ := h
  exact ⟨ρ, μ, _, XX, hh, hm, hf, fun x μ1 v H1 p1 e1 m1 r1 => ⟨ρ, μ1, _, XX, hh.stp e1, m1, p1, fun ws μ2 vs H2 p2 e2 m2 r2 => hv _ μ2 _ H2 p2 (e1.trans e2) m2 (.cons (r1.stp e2) r2), hx.stp e1⟩, hx⟩⟩
@[reducible] def eTup (a : FA) : FE := fun ρ μ P X => a ρ μ (fun ws μ1 => ws.length ≤ 100000 ∧ P (.tup ws) μ1) X
/-- [a, b]: a value (V), or tracked (R) -/
@[reducible] def eLV (a : FA) : FE := fun ρ μ P X => a ρ μ (fun ws μ1 => ws.length ≤ 100000 ∧ P (.lst ws) μ1) X
@[reducible] def eLR (a : FA) : FE := fun ρ μ P X => a ρ μ (fun ws μ1 => ws.length ≤ 100000 ∧ ∀ p, μ1 p = none → P (.ref p) (mset μ1 p (.ls ws))) X
theorem sz_of2 {n m : Nat} (h : n ≤ 100000) (e : m = n) : m ≤ sizeLine := by
  rw [e]
  exact sz_of h
theorem new_tup {K : Frag} {H : Hp} {μ : Mu} {p : Addr} {vs : List V} {ws : List W} (m : Mem K H μ) (hp : H p = none) (r : RwAll K H μ vs ws) : Rw K (upd H p (.tup vs)) μ (.ref p) (.tup ws) := .tup (.inl ⟨upd_same, m.free hp⟩) (r.stp (Stp.new hp))
theorem new_lst {K : Frag} {H : Hp} {μ : Mu} {p : Addr} {vs : List V} {ws : List W} (m : Mem K H μ) (hp : H p = none) (r : RwAll K H μ vs ws) : Rw K (upd H p (.lst vs)) μ (.ref p) (.lst ws) := .lst ⟨upd_same, m.free hp⟩ (r.stp (Stp.new hp))
theorem new_ls {K : Frag} {H : Hp} {μ : Mu} {p : Addr} {vs : List V} {ws : List W} (m : Mem K H μ) (hp : H p = none) (r : RwAll K H μ vs ws) : Mem K (upd H p (.lst vs)) (mset μ p (.ls ws)) := m.put (Stp.newT hp) ⟨vs, upd_same, r.stp (Stp.newT hp)⟩
theorem qe_tup {es : List Expr} {f : FA} {x1} {pos : Pos} (h : QA X E es f) : QE X E (.Tuple es x1 pos) (eTup f) := ⟨(pe_tup h.pa).qimp fun σ H Q h => by
  obtain ⟨ρ, μ, P, XX, hh, hm, hf, hv, hx⟩ := h
  exact ⟨ρ, μ, _, XX, hh, hm, hf, fun ws μ1 vs H1 p1 e1 m1 r1 => ⟨sz_of2 p1.1 r1.len, fun p hp => hv _ μ1 _ _ p1.2 (e1.trans (Stp.new hp)) (m1.new hp) (new_tup m1 hp r1)⟩, hx⟩⟩
theorem qe_lV {es : List Expr} {f : FA} {pos : Pos} (h : QA X E es f) : QE X E (.List es pos) (eLV f) := ⟨(pe_lst h.pa).qimp fun σ H Q h => by
  obtain ⟨ρ, μ, P, XX, hh, hm, hf, hv, hx⟩ := h
  exact ⟨ρ, μ, _, XX, hh, hm, hf, fun ws μ1 vs H1 p1 e1 m1 r1 => ⟨sz_of2 p1.1 r1.len, fun p hp => hv _ μ1 _ _ p1.2 (e1.trans (Stp.new hp)) (m1.new hp) (new_lst m1 hp r1)⟩, hx⟩⟩
theorem qe_lR {es : List Expr} {f : FA} {pos : Pos} (h : QA X E es f) : QE X E (.List es pos) (eLR f) := ⟨(pe_lst h.pa).qimp fun σ H Q h => by
  obtain ⟨ρ, μ, P, XX, hh, hm, hf, hv, hx⟩ := h
  exact ⟨ρ, μ, _, XX, hh, hm, hf, fun ws μ1 vs H1 p1 e1 m1 r1 => ⟨sz_of2 p1.1 r1.len, fun p hp => hv _ _ _ _ (p1.2 p (m1.free hp)) (e1.trans (Stp.newT hp)) (new_ls m1 hp r1) (.ref p)⟩, hx⟩⟩
end
/-! ### statements -/
@[reducible] def sNx : FS := fun ρ μ N => N.nx ρ μ
@[reducible] def sSeq (a b : FS) : FS := fun ρ μ N => a ρ μ { N with nx := fun ρ' μ' => b ρ' μ' N }
@[reducible] def sEx (e : FE) : FS := fun ρ μ N => e ρ μ (fun _ μ1 => N.nx ρ μ1) (N.ex ρ)
@[reducible] def sRt (e : FE) : FS := fun ρ μ N => e ρ μ (fun w μ1 => N.rt w μ1) (N.ex ρ)
@[reducible] def sIf (c : FT) (a b : FS) : FS := fun ρ μ N => c ρ μ (fun d μ1 => if d = true then a ρ μ1 N else b ρ μ1 N) (N.ex ρ)
@[reducible] def sSet (i : Nat) (e : FE) : FS := fun ρ μ N => e ρ μ (fun w μ1 => N.nx (sv ρ i w) μ1) (N.ex ρ)
section
variable {X : Cx} {E : L2.St → XK}
theorem qss_nil : QSs X E [] sNx := ⟨(pss_nil (X := X)).qimp fun D σ H h => by
  obtain ⟨ρ, μ, N, hh, hm, hf, l⟩ := h
  exact l.nx ρ μ σ H hf (Stp.refl μ H) hm hh⟩
theorem qss_one {st : Stmt} {f : FS} (h : QS X E st f) : QSs X E [st] f := ⟨pss_one h.ps⟩
theorem EL.seq {K : Frag} {D : Ends} {μ : Mu} {H : Hp} {N : En} {t : FS} {nx : Rho → Mu → Prop} (l : EL K E D μ H N) (h : ∀ ρ' μ', nx ρ' μ' → t ρ' μ' N) : EL K E { D with nx := tS K E t D } μ H { N with nx := nx } :=
  ⟨fun ρ' μ' σ' H' n e m hh => ⟨ρ', μ', N, hh, m, h ρ' μ' n, l.stp e⟩, l.rt, l.bk, l.ct, l.ex⟩
theorem qss_cons {st : Stmt} {r : List Stmt} {f g : FS} (h : QS X E st f) (hr : QSs X E r g) : QSs X E (st :: r) (sSeq f g) := ⟨(pss_cons h.ps hr.pss).qimp fun D σ H h => by
  obtain ⟨ρ, μ, N, hh, hm, hf, l⟩ := h
  exact ⟨ρ, μ, _, hh, hm, hf, l.seq fun _ _ n => n⟩⟩
theorem qs_expr {e : Expr} {f : FE} {pos : Pos} (h : QE X E e f) (hs : swapsWith e none pos.line X.env = pure false := by rfl) : QS X E (.Expr e pos) (sEx f) := ⟨(ps_expr h.pe hs).qimp fun D σ H h => by
  obtain ⟨ρ, μ, N, hh, hm, hf, l⟩ := h
  exact ⟨ρ, μ, _, _, hh, hm, hf, fun w μ1 v H1 p1 e1 m1 r1 => l.nx ρ μ1 σ H1 p1 e1 m1 (hh.stp e1), l.xl hh⟩⟩
theorem qs_ret {e : Expr} {f : FE} {pos : Pos} (h : QE X E e f) : QS X E (.Return (some e) pos) (sRt f) := ⟨(ps_ret h.pe).qimp fun D σ H h => by
  obtain ⟨ρ, μ, N, hh, hm, hf, l⟩ := h
  exact ⟨ρ, μ, _, _, hh, hm, hf, fun w μ1 v H1 p1 e1 m1 r1 => l.rt w μ1 v H1 p1 e1 m1 r1, l.xl hh⟩⟩
theorem qs_if {c : Expr} {a b : List Stmt} {fc : FT} {fa fb : FS} {pos : Pos} (hc : QT X E c fc) (ha : QSs X E a fa) (hb : QSs X E b fb) : QS X E (.If c a b pos) (sIf fc fa fb) := ⟨(ps_if hc.pt ha.pss hb.pss).qimp fun D σ H h => by
  obtain ⟨ρ, μ, N, hh, hm, hf, l⟩ := h
  refine ⟨ρ, μ, _, _, hh, hm, hf, fun d μ1 H1 p1 e1 m1 => ?_, l.xl hh⟩
  cases d with
  | true => exact iteT ⟨ρ, μ1, N, hh.stp e1, m1, (if_pos rfl).mp p1, l.stp e1⟩
  | false => exact iteF ⟨ρ, μ1, N, hh.stp e1, m1, (if_neg (by decide)).mp p1, l.stp e1⟩⟩
theorem qs_set {i : Nat} {x : Str} {e : Expr} {f : FE} {pos pos' : Pos} (hN : X.N.Nodup) (hi : X.N[i]? = some x) (hx : Loc X.env.scope x) (h : QE X E e f) (hs : swapsWith e (some (.Name x pos')) pos.line X.env = pure false := by rfl) (hf : X.fn x = true ∨ X.env.scope.names.lookup x = some .local := by first | exact .inl rfl | exact .inr rfl | assumption) :
    QS X E (.Assign [.Name x pos'] e pos) (sSet i f) := ⟨(ps_set hN hi hx h.pe hs hf).qimp fun D σ H h => by
  obtain ⟨ρ, μ, N, hh, hm, hf, l⟩ := h
  exact ⟨ρ, μ, _, _, hh, hm, hf, fun w μ1 v H1 p1 e1 m1 r1 => l.nx _ μ1 _ H1 p1 e1 m1 ((hh.stp e1).sv i r1), l.xl hh⟩⟩
/-! targets -/
abbrev FG := W → Rho → Mu → (Rho → Mu → Prop) → Prop
abbrev FGs := List W → Rho → Mu → (Rho → Mu → Prop) → Prop
def tGt (K : Frag) (g : FG) : TG := fun v σ H Q => ∃ w ρ μ P, Rw K H μ v w ∧ Holds K H μ σ ρ ∧ Mem K H μ ∧ g w ρ μ P ∧ ∀ ρ' μ' σ' H', P ρ' μ' → Stp μ H μ' H' → Mem K H' μ' → Holds K H' μ' σ' ρ' → Q σ' H'
def tGts (K : Frag) (g : FGs) : TGs := fun vs σ H Q => ∃ ws ρ μ P, RwAll K H μ vs ws ∧ Holds K H μ σ ρ ∧ Mem K H μ ∧ g ws ρ μ P ∧ ∀ ρ' μ' σ' H', P ρ' μ' → Stp μ H μ' H' → Mem K H' μ' → Holds K H' μ' σ' ρ' → Q σ' H'
structure QG (X : Cx) (e : Expr) (g : FG) : Prop where
  pg : PG X e (tGt X.K g)
structure QGs (X : Cx) (es : List Expr) (g : FGs) : Prop where
  pgs : PGs X es (tGts X.K g)
@[reducible] def gN (i : Nat) : FG := fun w ρ μ P => P (sv ρ i w) μ
@[reducible] def gsNil : FGs := fun ws ρ μ P => match ws with
  | [] => P ρ μ
  | _ => False
@[reducible] def gsCons (g : FG) (r : FGs) : FGs := fun ws ρ μ P => match ws with
  | w :: us => g w ρ μ fun ρ' μ' => r us ρ' μ' P
  | [] => False
@[reducible] def gT (n : Nat) (r : FGs) : FG := fun w ρ μ P => match w with
  | .tup ws => ws.length = n ∧ r ws ρ μ P
  | _ => False
theorem _root_.L2.PG.qimp {X : Cx} {e : Expr} {t t' : TG} (h : PG X e t) (k : ∀ v σ H Q, t' v σ H Q → t v σ H Q) : PG X e t' := ⟨fun pins s σ H v u Q I r q => h.run pins s σ H v u Q I r (k v σ H Q q)⟩
theorem _root_.L2.PGs.qimp {X : Cx} {e : List Expr} {t t' : TGs} (h : PGs X e t) (k : ∀ v σ H Q, t' v σ H Q → t v σ H Q) : PGs X e t' := ⟨fun pins s σ H v u Q I r q => h.run pins s σ H v u Q I r (k v σ H Q q)⟩
theorem qg_name {i : Nat} {x : Str} {pos : Pos} (hN : X.N.Nodup) (hi : X.N[i]? = some x) (hx : Loc X.env.scope x) (hf : X.fn x = true ∨ X.env.scope.names.lookup x = some .local := by first | exact .inl rfl | exact .inr rfl | assumption) : QG X (.Name x pos) (gN i) := ⟨(pg_name hN hi hx hf).qimp fun v σ H Q h => by
  obtain ⟨w, ρ, μ, P, r, hh, hm, hg, q⟩ := h
  exact q _ μ _ H hg (Stp.refl μ H) hm (hh.sv i r)⟩
theorem qgs_nil : QGs X [] gsNil := ⟨(pgs_nil (X := X)).qimp fun vs σ H Q h => by
  obtain ⟨ws, ρ, μ, P, r, hh, hm, hg, q⟩ := h
  cases r with
  | nil => exact ⟨rfl, q ρ μ σ H hg (Stp.refl μ H) hm hh⟩
  | cons _ _ => exact hg.elim⟩
theorem qgs_cons {e : Expr} {es : List Expr} {g : FG} {r : FGs} (h1 : QG X e g) (h2 : QGs X es r)
    (hs : (assignEach (e :: es) X.env).map (·.2) = assign e X.env :: (assignEach es X.env).map (·.2) := by rfl) : QGs X (e :: es) (gsCons g r) := ⟨(pgs_cons h1.pg h2.pgs hs).qimp fun vs σ H Q h => by
  obtain ⟨ws, ρ, μ, P, r, hh, hm, hg, q⟩ := h
  cases r with
  | nil => exact hg.elim
  | @cons v vr w wr r rr => exact ⟨v, vr, rfl, w, ρ, μ, _, r, hh, hm, hg, fun ρ1 μ1 σ1 H1 p1 e1 m1 h1 => ⟨wr, ρ1, μ1, P, rr.stp e1, h1, m1, p1, fun ρ' μ' σ' H' p e => q ρ' μ' σ' H' p (e1.trans e)⟩⟩⟩
theorem tup_sq {K : Frag} {H : Hp} {μ : Mu} {a : Addr} {vs : List V} (h : TupAt K H μ a vs) : SqT K H a vs := by
  rcases h with h | h
  · exact .inl (.inl h.1)
  · exact .inr h
theorem qg_tup {es : List Expr} {k : Nat} {g : FGs} {n : Nat} {pos : Pos} (hc : X.calm = true) (h : QGs X es g)
    (hn : (assignEach es X.env).length = n := by rfl) (hst : (assignEach es X.env).findIdx? (·.1) = none := by rfl) : QG X (.Tuple es k pos) (gT n g) := ⟨(pg_tup hc h.pgs hn hst).qimp fun v σ H Q h => by
  obtain ⟨w, ρ, μ, P, r, hh, hm, hg, q⟩ := h
  cases r with
  | tup hq hs => exact ⟨_, _, rfl, tup_sq hq, hs.len.trans hg.1, _, ρ, μ, P, hs, hh, hm, hg.2, q⟩
  | _ => exact hg.elim⟩
@[reducible] def sAsg (e : FE) (g : FG) : FS := fun ρ μ N => e ρ μ (fun w μ1 => g w ρ μ1 N.nx) (N.ex ρ)
theorem qs_asg {tg e : Expr} {f : FE} {g : FG} {pos : Pos} (he : QE X E e f) (hg : QG X tg g) (hs : swapsWithSole [tg] e pos.line X.env = pure false := by rfl) (hw : swappedStores [tg] e X.env = pure none := by rfl)
    (h1 : (assignEach [tg] X.env).map (·.2) = [assign tg X.env] := by rfl) : QS X E (.Assign [tg] e pos) (sAsg f g) := ⟨(ps_asg he.pe hg.pg hs hw h1).qimp fun D σ H h => by
  obtain ⟨ρ, μ, N, hh, hm, hf, l⟩ := h
  exact ⟨ρ, μ, _, _, hh, hm, hf, fun w μ1 v H1 p1 e1 m1 r1 => ⟨w, ρ, μ1, _, r1, hh.stp e1, m1, p1, fun ρ' μ' σ' H' p e => l.nx ρ' μ' σ' H' p (e1.trans e)⟩, l.xl hh⟩⟩
/-- a, b = x, y -/
@[reducible] def sPar (i j : Nat) (a : FA) : FS := fun ρ μ N => a ρ μ (fun ws μ1 => match ws with
  | [x, y] => N.nx (sv (sv ρ i x) j y) μ1
  | _ => False) (N.ex ρ)
theorem qs_par {i j : Nat} {x y : Str} {a b : Expr} {f : FA} {px py pt pos : Pos} {kt k2 pt2} (hc : X.calm = true) (hN : X.N.Nodup) (hi : X.N[i]? = some x) (hj : X.N[j]? = some y) (hij : i ≠ j)
    (hx : X.env.scope.names.lookup x = some .local) (hy : X.env.scope.names.lookup y = some .local) (ha : QA X E [a, b] f)
    (hw : swappedStores [.Tuple [.Name x px, .Name y py] kt pt] (.Tuple [a, b] k2 pt2) X.env = pure (some [x, y]))
    (hs : swapsWithSole [.Tuple [.Name x px, .Name y py] kt pt] (.Tuple [a, b] k2 pt2) pos.line X.env = pure false := by rfl) :
    QS X E (.Assign [.Tuple [.Name x px, .Name y py] kt pt] (.Tuple [a, b] k2 pt2) pos) (sPar i j f) := ⟨(ps_par hc hN hi hj hij hx hy ha.pa hw hs).qimp fun D σ H h => by
  obtain ⟨ρ, μ, N, hh, hm, hf, l⟩ := h
  refine ⟨ρ, μ, _, _, hh, hm, hf, fun ws μ1 vs H1 p1 e1 m1 r1 => ?_, l.xl hh⟩
  split at p1
  · obtain ⟨v, w, rfl, r, s⟩ := r1.two
    exact ⟨v, w, rfl, l.nx _ μ1 _ H1 p1 e1 m1 (((hh.stp e1).sv i r).sv j s)⟩
  · exact p1.elim⟩
end
end Q
namespace Q
open PySem L2 Evl
/-! == and != of data: atoms, tuples, lists, nested -/
mutual
def eqW : W → W → Bool
  | .non, .non => true
  | .bl a, .bl b => a == b
  | .bl a, .int j => (if a then 1 else 0) == j
  | .int i, .bl b => i == (if b then 1 else 0)
  | .int i, .int j => i == j
  | .str x, .str y => x == y
  | .tup xs, .tup ys => eqWs xs ys
  | .lst xs, .lst ys => eqWs xs ys
  | _, _ => false
def eqWs : List W → List W → Bool
  | [], [] => true
  | x :: xs, y :: ys => eqW x y && eqWs xs ys
  | _, _ => false
end
mutual
/-- data of at most n levels -/
def isD : Nat → W → Bool
  | _, .non | _, .bl _ | _, .int _ | _, .str _ => true
  | 0, _ => false
  | n + 1, .tup ws => isDs n ws
  | n + 1, .lst ws => isDs n ws
  | _, _ => false
def isDs : Nat → List W → Bool
  | _, [] => true
  | n, w :: ws => isD n w && isDs n ws
end
mutual
inductive Dq (K : Frag) (H : Hp) : V → W → Prop
  | non : Dq K H .non .non
  | bl (b : Bool) : Dq K H (.bl b) (.bl b)
  | int (i : Int) : Dq K H (.int i) (.int i)
  | str (x : Str) : Dq K H (.str x) (.str x)
  | tup {a : Addr} {vs : List V} {ws : List W} : SqT K H a vs → DqAll K H vs ws → Dq K H (.ref a) (.tup ws)
  | lst {a : Addr} {vs : List V} {ws : List W} : SqL K H a vs → DqAll K H vs ws → Dq K H (.ref a) (.lst ws)
inductive DqAll (K : Frag) (H : Hp) : List V → List W → Prop
  | nil : DqAll K H [] []
  | cons {v : V} {vs : List V} {w : W} {ws : List W} : Dq K H v w → DqAll K H vs ws → DqAll K H (v :: vs) (w :: ws)
end
mutual
theorem dq_of {K : Frag} {H : Hp} {μ : Mu} : ∀ {n : Nat} {v : V} {w : W}, Rw K H μ v w → isD n w = true → Dq K H v w
  | _, _, _, .non, _ => .non
  | _, _, _, .bl b, _ => .bl b
  | _, _, _, .int i, _ => .int i
  | _, _, _, .str x, _ => .str x
  | 0, _, _, .tup _ _, d => by cases d
  | n + 1, _, _, .tup h hs, d => .tup (tup_sq h) (dqs_of hs d)
  | 0, _, _, .lst _ _, d => by cases d
  | n + 1, _, _, .lst h hs, d => .lst (.inl (.inl h.1)) (dqs_of hs d)
  | 0, _, _, .ref _, d => by cases d
  | n + 1, _, _, .ref _, d => by cases d
  | 0, _, _, .fn _, d => by cases d
  | n + 1, _, _, .fn _, d => by cases d
  | 0, _, _, .rol _ _, d => by cases d
  | n + 1, _, _, .rol _ _, d => by cases d
  | 0, _, _, .exc, d => by cases d
  | n + 1, _, _, .exc, d => by cases d
  | 0, _, _, .excf _ _ _, d => by cases d
  | n + 1, _, _, .excf _ _ _, d => by cases d
theorem dqs_of {K : Frag} {H : Hp} {μ : Mu} : ∀ {n : Nat} {vs : List V} {ws : List W}, RwAll K H μ vs ws → isDs n ws = true → DqAll K H vs ws
  | _, _, _, .nil, _ => .nil
  | n, _, _, .cons h hs, d => .cons (dq_of h (Bool.and_eq_true_iff.mp d).1) (dqs_of hs (Bool.and_eq_true_iff.mp d).2)
end
mutual
theorem eqW_refl : ∀ (n : Nat) (w : W), isD n w = true → eqW w w = true
  | _, .non, _ => rfl
  | _, .bl b, _ => by simp [eqW]
  | _, .int i, _ => by simp [eqW]
  | _, .str x, _ => by simp [eqW]
  | 0, .tup _, d => by cases d
  | n + 1, .tup ws, d => eqWs_refl n ws d
  | 0, .lst _, d => by cases d
  | n + 1, .lst ws, d => eqWs_refl n ws d
  | 0, .rol _, d => by cases d
  | n + 1, .rol _, d => by cases d
  | 0, .ref _, d => by cases d
  | n + 1, .ref _, d => by cases d
  | 0, .fn _, d => by cases d
  | n + 1, .fn _, d => by cases d
  | 0, .exc .., d => by cases d
  | n + 1, .exc .., d => by cases d
theorem eqWs_refl : ∀ (n : Nat) (ws : List W), isDs n ws = true → eqWs ws ws = true
  | _, [], _ => rfl
  | n, w :: ws, d => by
    have d := Bool.and_eq_true_iff.mp d
    show (eqW w w && eqWs ws ws) = true
    rw [eqW_refl n w d.1, eqWs_refl n ws d.2]
    rfl
end
theorem DqAll.len {K : Frag} {H : Hp} : ∀ {vs : List V} {ws : List W}, DqAll K H vs ws → vs.length = ws.length
  | _, _, .nil => rfl
  | _, _, .cons _ hs => congrArg Nat.succ hs.len
/-- the answers item by item -/
def eqAtW (xs ys : List W) (j : Nat) : Bool := match xs[j]?, ys[j]? with
  | some x, some y => eqW x y
  | _, _ => true
theorem eqWs_all : ∀ (xs ys : List W), eqWs xs ys = ((List.range (min xs.length ys.length)).all (eqAtW xs ys) && xs.length == ys.length)
  | [], [] => by simp [eqWs]
  | [], y :: ys => by simp [eqWs]
  | x :: xs, [] => by simp [eqWs]
  | x :: xs, y :: ys => by
    have e : min (x :: xs).length (y :: ys).length = min xs.length ys.length + 1 := by simp only [List.length_cons]; omega
    rw [e, List.range_succ_eq_map, List.all_cons, List.all_map]
    show (eqW x y && eqWs xs ys) = _
    rw [eqWs_all xs ys]
    have e2 : (eqAtW (x :: xs) (y :: ys) ∘ Nat.succ) = eqAtW xs ys := by
      funext j
      simp [eqAtW]
    rw [e2]
    simp [eqAtW, Bool.and_assoc]
section
variable {X : Cx} {pins : List (Addr × Obj)} {σ : St} {H : Hp} {s : Shared}
theorem sq_inj (I : Inv X pins σ H s) {a : Addr} {xs ys : List V} (h : SqL X.K H a xs) (h' : SqL X.K H a ys) : xs = ys := by
  rcases h with h | ⟨o, its, n, hk, hc, hd, hs, hz, r⟩
  · rcases h' with h' | ⟨o', its', n', hk', hc', hd', hs', hz', r'⟩
    · rcases h with h | ⟨q, h⟩ <;> rcases h' with h' | ⟨q', h'⟩ <;> (rw [h] at h'; first | cases h' | skip) <;> rfl
    · obtain ⟨q, hq⟩ : ∃ q, H a = some q := by
        rcases h with h | ⟨q, h⟩
        · exact ⟨_, h⟩
        · exact ⟨_, h⟩
      have k1 := I.ok.mod.kin a o' hk'
      rw [(I.bs a o' k1).2] at hq
      cases hq
  · rcases h' with h' | ⟨o', its', n', hk', hc', hd', hs', hz', r'⟩
    · obtain ⟨q, hq⟩ : ∃ q, H a = some q := by
        rcases h' with h' | ⟨q, h'⟩
        · exact ⟨_, h'⟩
        · exact ⟨_, h'⟩
      have k1 := I.ok.mod.kin a o hk
      rw [(I.bs a o k1).2] at hq
      cases hq
    · rw [hk] at hk'
      cases hk'
      rw [hs] at hs'
      cases hs'
      have f : ∀ {us : List Value} {xs ys : List V}, Vals xs us → Vals ys us → xs = ys := by
        intro us
        induction us with
        | nil =>
          intro xs ys h1 h2
          cases h1
          cases h2
          rfl
        | cons u us ih =>
          intro xs ys h1 h2
          cases h1 with
          | cons p q =>
            cases h2 with
            | cons p' q' =>
              rw [ih q q']
              congr 1
              rename_i v _ v' _
              cases v <;> cases v' <;> simp [RelV] at p p' <;> first
                | rfl
                | (subst p; simp at p'; done)
                | (obtain ⟨t, rfl⟩ := p; simp at p'; done)
                | (obtain ⟨t, rfl⟩ := p; simp at p'; rw [p'])
                | (subst p; simp at p'; rw [p'])
                | (subst p; obtain ⟨t, h⟩ := p'; cases h)
      exact f r r'
mutual
theorem dq_inj (I : Inv X pins σ H s) : ∀ {v : V} {x y : W}, Dq X.K H v x → Dq X.K H v y → x = y
  | _, _, _, .non, h => by cases h; rfl
  | _, _, _, .bl b, h => by cases h; rfl
  | _, _, _, .int i, h => by cases h; rfl
  | _, _, _, .str x, h => by cases h; rfl
  | _, _, _, .tup q hs, h => by
    cases h with
    | tup q' hs' =>
      rw [I.tuple_inj q q'] at hs
      rw [dqs_inj I hs hs']
    | lst q' hs' =>
      obtain ⟨its, r, ⟨o, e, c, n, d⟩, z⟩ := I.tuple q
      obtain ⟨its', r', ⟨o', n', e', c', d'⟩, z'⟩ := I.list q'
      rw [e] at e'
      cases e'
      exact absurd (c.symm.trans c') (by decide)
  | _, _, _, .lst q hs, h => by
    cases h with
    | lst q' hs' =>
      rw [sq_inj I q q'] at hs
      rw [dqs_inj I hs hs']
    | tup q' hs' =>
      obtain ⟨its, r, ⟨o, e, c, n, d⟩, z⟩ := I.tuple q'
      obtain ⟨its', r', ⟨o', n', e', c', d'⟩, z'⟩ := I.list q
      rw [e] at e'
      cases e'
      exact absurd (c.symm.trans c') (by decide)
theorem dqs_inj (I : Inv X pins σ H s) : ∀ {vs : List V} {xs ys : List W}, DqAll X.K H vs xs → DqAll X.K H vs ys → xs = ys
  | _, _, _, .nil, h => by cases h; rfl
  | _, _, _, .cons h hs, g => by
    cases g with
    | cons g gs => rw [dq_inj I h g, dqs_inj I hs gs]
end
theorem val_at : ∀ {vs : List V} {us : List Value} (j : Nat) (h : j < us.length), Vals vs us → ∃ v, vs[j]? = some v ∧ RelV v us[j]
  | _, _, j, h, .nil => absurd h (Nat.not_lt_zero _)
  | _, _, 0, _, .cons r _ => ⟨_, rfl, r⟩
  | _, _, j + 1, h, .cons _ t => val_at j (Nat.lt_of_succ_lt_succ h) t
theorem dq_at {K : Frag} {H : Hp} : ∀ {vs : List V} {ws : List W} {j : Nat} {v : V}, DqAll K H vs ws → vs[j]? = some v → ∃ w, ws[j]? = some w ∧ Dq K H v w
  | _, _, j, v, .nil, e => by simp at e
  | _, _, 0, v, .cons h _, e => by
    cases e
    exact ⟨_, rfl, h⟩
  | _, _, j + 1, v, .cons _ hs, e => dq_at (j := j) hs e
theorem isD_mem : ∀ {n : Nat} {ws : List W} {j : Nat} {w : W}, isDs n ws = true → ws[j]? = some w → isD n w = true
  | _, [], _, _, _, e => by simp at e
  | n, w :: ws, 0, _, d, e => by
    cases e
    exact (Bool.and_eq_true_iff.mp d).1
  | n, w :: ws, j + 1, _, d, e => isD_mem (j := j) (Bool.and_eq_true_iff.mp d).2 e
theorem atom_or (n : Nat) (w : W) (d : isD n w = true) : (w = .non ∨ (∃ b, w = .bl b) ∨ (∃ i, w = .int i) ∨ ∃ x, w = .str x) ∨ ∃ m, n = m + 1 ∧ ((∃ ws, w = .tup ws ∧ isDs m ws = true) ∨ ∃ ws, w = .lst ws ∧ isDs m ws = true) := by
  cases w with
  | non => exact .inl (.inl rfl)
  | bl b => exact .inl (.inr (.inl ⟨b, rfl⟩))
  | int i => exact .inl (.inr (.inr (.inl ⟨i, rfl⟩)))
  | str x => exact .inl (.inr (.inr (.inr ⟨x, rfl⟩)))
  | tup ws => cases n with
    | zero => cases d
    | succ m => exact .inr ⟨m, rfl, .inl ⟨ws, rfl, d⟩⟩
  | lst ws => cases n with
    | zero => cases d
    | succ m => exact .inr ⟨m, rfl, .inr ⟨ws, rfl, d⟩⟩
  | _ => cases n <;> cases d
open PySem.SeqAt in
theorem eq_atoms {K : Frag} {A : Around} {v u : V} {a b : Value} : ∀ {x y : W}, Dq K H v x → Dq K H u y → RelV v a → RelV u b → (x = .non ∨ (∃ b, x = .bl b) ∨ (∃ i, x = .int i) ∨ ∃ z, x = .str z) → (y = .non ∨ (∃ b, y = .bl b) ∨ (∃ i, y = .int i) ∨ ∃ z, y = .str z) → EqAt A s a b (eqW x y) := by
  intro x y hx hy rv ru ax ay
  rcases ax with rfl | ⟨b1, rfl⟩ | ⟨i1, rfl⟩ | ⟨x1, rfl⟩
  · cases hx
    cases rv
    rcases ay with rfl | ⟨b2, rfl⟩ | ⟨i2, rfl⟩ | ⟨x2, rfl⟩
    · cases hy
      cases ru
      show EqAt A s _ _ true
      exact EqAt.same _
    · cases hy
      cases ru
      show EqAt A s _ _ false
      exact EqAt.none_bool b2
    · cases hy
      obtain ⟨t2, rfl⟩ := ru
      show EqAt A s _ _ false
      exact EqAt.none_int i2 t2
    · cases hy
      obtain ⟨t2, rfl⟩ := ru
      show EqAt A s _ _ false
      exact EqAt.none_str x2 t2
  · cases hx
    cases rv
    rcases ay with rfl | ⟨b2, rfl⟩ | ⟨i2, rfl⟩ | ⟨x2, rfl⟩
    · cases hy
      cases ru
      show EqAt A s _ _ false
      exact EqAt.bool_none b1
    · cases hy
      cases ru
      show EqAt A s _ _ (b1 == b2)
      exact EqAt.bool_bool b1 b2
    · cases hy
      obtain ⟨t2, rfl⟩ := ru
      show EqAt A s _ _ ((if b1 then 1 else 0) == i2)
      exact EqAt.bool_int b1 i2 t2
    · cases hy
      obtain ⟨t2, rfl⟩ := ru
      show EqAt A s _ _ false
      exact EqAt.bool_str b1 x2 t2
  · cases hx
    obtain ⟨t1, rfl⟩ := rv
    rcases ay with rfl | ⟨b2, rfl⟩ | ⟨i2, rfl⟩ | ⟨x2, rfl⟩
    · cases hy
      cases ru
      show EqAt A s _ _ false
      exact EqAt.int_none i1 t1
    · cases hy
      cases ru
      show EqAt A s _ _ (i1 == (if b2 then 1 else 0))
      exact EqAt.int_bool i1 t1 b2
    · cases hy
      obtain ⟨t2, rfl⟩ := ru
      show EqAt A s _ _ (i1 == i2)
      exact EqAt.int_int i1 t1 i2 t2
    · cases hy
      obtain ⟨t2, rfl⟩ := ru
      show EqAt A s _ _ false
      exact EqAt.int_str i1 t1 x2 t2
  · cases hx
    obtain ⟨t1, rfl⟩ := rv
    rcases ay with rfl | ⟨b2, rfl⟩ | ⟨i2, rfl⟩ | ⟨x2, rfl⟩
    · cases hy
      cases ru
      show EqAt A s _ _ false
      exact EqAt.str_none x1 t1
    · cases hy
      cases ru
      show EqAt A s _ _ false
      exact EqAt.str_bool x1 t1 b2
    · cases hy
      obtain ⟨t2, rfl⟩ := ru
      show EqAt A s _ _ false
      exact EqAt.str_int x1 t1 i2 t2
    · cases hy
      obtain ⟨t2, rfl⟩ := ru
      show EqAt A s _ _ (x1 == x2)
      exact EqAt.str_str x1 t1 x2 t2
open PySem.SeqAt in
theorem eq_atom_seq {K : Frag} {A : Around} {v : V} {a : Value} {l : Addr} {its : Array Value} (hu : A.units < cLine) : ∀ {x : W}, Dq K H v x → RelV v a → (x = .non ∨ (∃ b, x = .bl b) ∨ (∃ i, x = .int i) ∨ ∃ z, x = .str z) →
    (s.heap.IsTuple l its → EqAt A s a (.ref l) false ∧ EqAt A s (.ref l) a false) ∧ (s.heap.IsList l its → EqAt A s a (.ref l) false ∧ EqAt A s (.ref l) a false) := by
  intro x hx rv ax
  rcases ax with rfl | ⟨b1, rfl⟩ | ⟨i1, rfl⟩ | ⟨x1, rfl⟩
  · cases hx
    cases rv
    exact ⟨fun t => ⟨EqAt.none_tuple t hu, EqAt.tuple_none t hu⟩, fun t => ⟨EqAt.none_list t hu, EqAt.list_none t hu⟩⟩
  · cases hx
    cases rv
    exact ⟨fun t => ⟨EqAt.bool_tuple b1 t hu, EqAt.tuple_bool b1 t hu⟩, fun t => ⟨EqAt.bool_list b1 t hu, EqAt.list_bool b1 t hu⟩⟩
  · cases hx
    obtain ⟨t1, rfl⟩ := rv
    exact ⟨fun t => ⟨EqAt.int_tuple i1 t1 t hu, EqAt.tuple_int i1 t1 t hu⟩, fun t => ⟨EqAt.int_list i1 t1 t hu, EqAt.list_int i1 t1 t hu⟩⟩
  · cases hx
    obtain ⟨t1, rfl⟩ := rv
    exact ⟨fun t => ⟨EqAt.str_tuple x1 t1 t hu, EqAt.tuple_str x1 t1 t hu⟩, fun t => ⟨EqAt.str_list x1 t1 t hu, EqAt.list_str x1 t1 t hu⟩⟩
open PySem.SeqAt in
/-- the comparison of two pieces of data within other data -/
theorem eq_at (I : Inv X pins σ H s) : ∀ (n : Nat) (x y : W) (v u : V) (a b : Value) (A : Around), Dq X.K H v x → Dq X.K H u y → isD n x = true → isD n y = true → RelV v a → RelV u b → A.units + n < cLine → EqAt A s a b (eqW x y) := by
  intro n
  induction n with
  | zero =>
    intro x y v u a b A hx hy dx dy rv ru hu
    rcases atom_or 0 x dx with hx1 | ⟨m, hm, _⟩
    · rcases atom_or 0 y dy with hy1 | ⟨m, hm, _⟩
      · exact eq_atoms hx hy rv ru hx1 hy1
      · omega
    · omega
  | succ n ih =>
    intro x y v u a b A hx hy dx dy rv ru hu
    have hu0 : A.units < cLine := by omega
    rcases atom_or (n + 1) x dx with hx1 | ⟨m, hm, hx1⟩
    · rcases atom_or (n + 1) y dy with hy1 | ⟨m', hm', hy1⟩
      · exact eq_atoms hx hy rv ru hx1 hy1
      · have e0 : eqW x y = false := by
          rcases hx1 with rfl | ⟨_, rfl⟩ | ⟨_, rfl⟩ | ⟨_, rfl⟩ <;> rcases hy1 with ⟨ws, rfl, d⟩ | ⟨ws, rfl, d⟩ <;> simp only [eqW]
        rw [e0]
        rcases hy1 with ⟨ws, rfl, d⟩ | ⟨ws, rfl, d⟩
        · cases hy with
          | tup q hs =>
            cases ru
            obtain ⟨its, r, t, z⟩ := I.tuple q
            exact ((eq_atom_seq hu0 hx rv hx1).1 t).1
        · cases hy with
          | lst q hs =>
            cases ru
            obtain ⟨its, r, t, z⟩ := I.list q
            exact ((eq_atom_seq hu0 hx rv hx1).2 t.isList).1
    · have hmn : m = n := by omega
      subst hmn
      -- two rows of data, item by item
      have each : ∀ {xs ys : List W} {vs us : List V} {as bs : List Value}, DqAll X.K H vs xs → DqAll X.K H us ys → isDs m xs = true → isDs m ys = true → Vals vs as → Vals us bs → ∀ j (h1 : j < as.toArray.size) (h2 : j < bs.toArray.size), EqAt A.in1 s as.toArray[j] bs.toArray[j] (eqAtW xs ys j) := by
        intro xs ys vs us as bs e1 e2 d1 d2 r1 r2 j h1 h2
        obtain ⟨v1, f1, g1⟩ := val_at j (by simpa using h1) r1
        obtain ⟨v2, f2, g2⟩ := val_at j (by simpa using h2) r2
        obtain ⟨w1, k1, l1⟩ := dq_at e1 f1
        obtain ⟨w2, k2, l2⟩ := dq_at e2 f2
        have := ih w1 w2 v1 v2 _ _ A.in1 l1 l2 (isD_mem d1 k1) (isD_mem d2 k2) g1 g2 (by show A.units + 1 + m < cLine; omega)
        unfold eqAtW
        rw [k1, k2]
        simpa using this
      rcases hx1 with ⟨ws, rfl, d⟩ | ⟨ws, rfl, d⟩
      · cases hx with
        | tup q hs =>
          cases rv
          obtain ⟨its, r, t, z⟩ := I.tuple q
          rcases atom_or (m + 1) y dy with hy1 | ⟨m', hm', hy1⟩
          · have e0 : eqW (.tup ws) y = false := by
              rcases hy1 with rfl | ⟨_, rfl⟩ | ⟨_, rfl⟩ | ⟨_, rfl⟩ <;> simp only [eqW]
            rw [e0]
            exact ((eq_atom_seq hu0 hy ru hy1).1 t).2
          · have hm2 : m' = m := by omega
            subst hm2
            rcases hy1 with ⟨us, rfl, d2⟩ | ⟨us, rfl, d2⟩
            · cases hy with
              | @tup a2 vs2 _ q2 hs2 =>
                cases ru
                obtain ⟨its2, r2, t2, z2⟩ := I.tuple q2
                rename_i a1 vs1
                by_cases hab : a1 = a2
                · subst hab
                  have e := dq_inj I (.tup q hs) (.tup q2 hs2)
                  rw [← e, eqW_refl (m' + 1) _ dx]
                  exact EqAt.same _
                · refine EqAt.of_refs hab ?_
                  have n1 : its.toArray.size = ws.length := by simpa using r.length.symm.trans hs.len
                  have n2 : its2.toArray.size = us.length := by simpa using r2.length.symm.trans hs2.len
                  have w0 := RcAt.tuples t t2 hu0 (each hs hs2 d d2 r r2)
                  rw [n1, n2, ← eqWs_all] at w0
                  exact w0
            · cases hy with
              | lst q2 hs2 =>
                cases ru
                obtain ⟨its2, r2, t2, z2⟩ := I.list q2
                exact EqAt.tuple_list t t2.isList hu0
      · cases hx with
        | lst q hs =>
          cases rv
          obtain ⟨its, r, t, z⟩ := I.list q
          rcases atom_or (m + 1) y dy with hy1 | ⟨m', hm', hy1⟩
          · have e0 : eqW (.lst ws) y = false := by
              rcases hy1 with rfl | ⟨_, rfl⟩ | ⟨_, rfl⟩ | ⟨_, rfl⟩ <;> simp only [eqW]
            rw [e0]
            exact ((eq_atom_seq hu0 hy ru hy1).2 t.isList).2
          · have hm2 : m' = m := by omega
            subst hm2
            rcases hy1 with ⟨us, rfl, d2⟩ | ⟨us, rfl, d2⟩
            · cases hy with
              | tup q2 hs2 =>
                cases ru
                obtain ⟨its2, r2, t2, z2⟩ := I.tuple q2
                exact EqAt.list_tuple t.isList t2 hu0
            · cases hy with
              | @lst a2 vs2 _ q2 hs2 =>
                cases ru
                obtain ⟨its2, r2, t2, z2⟩ := I.list q2
                rename_i a1 vs1
                by_cases hab : a1 = a2
                · subst hab
                  have e := dq_inj I (.lst q hs) (.lst q2 hs2)
                  rw [← e, eqW_refl (m' + 1) _ dx]
                  exact EqAt.same _
                · refine EqAt.of_refs hab ?_
                  have n1 : its.toArray.size = ws.length := by simpa using r.length.symm.trans hs.len
                  have n2 : its2.toArray.size = us.length := by simpa using r2.length.symm.trans hs2.len
                  by_cases hz : its.toArray.size = its2.toArray.size
                  · have w0 := RcAt.lists t.isList t2.isList hz hu0 (each hs hs2 d d2 r r2)
                    have e3 : eqW (.lst ws) (.lst us) = (List.range its.toArray.size).all (eqAtW ws us) := by
                      show eqWs ws us = _
                      rw [eqWs_all]
                      have e4 : ws.length = us.length := by omega
                      rw [n1, ← e4, Nat.min_self]
                      simp
                    rw [e3]
                    exact w0
                  · have e3 : eqW (.lst ws) (.lst us) = false := by
                      show eqWs ws us = _
                      rw [eqWs_all]
                      have e4 : ws.length ≠ us.length := by omega
                      simp [e4]
                    rw [e3]
                    exact RcAt.lists_lengths t.isList t2.isList (by simpa using hz) hu0
open PySem.SeqAt in
theorem rcat_atoms {K : Frag} {A : Around} {v u : V} {a b : Value} : ∀ {x y : W}, Dq K H v x → Dq K H u y → RelV v a → RelV u b → (x = .non ∨ (∃ b, x = .bl b) ∨ (∃ i, x = .int i) ∨ ∃ z, x = .str z) → (y = .non ∨ (∃ b, y = .bl b) ∨ (∃ i, y = .int i) ∨ ∃ z, y = .str z) → RcAt A s a b (eqW x y) := by
  intro x y hx hy rv ru ax ay
  rcases ax with rfl | ⟨b1, rfl⟩ | ⟨i1, rfl⟩ | ⟨x1, rfl⟩
  · cases hx
    cases rv
    rcases ay with rfl | ⟨b2, rfl⟩ | ⟨i2, rfl⟩ | ⟨x2, rfl⟩
    · cases hy
      cases ru
      show RcAt A s _ _ true
      exact RcAt.none_none
    · cases hy
      cases ru
      show RcAt A s _ _ false
      exact RcAt.none_bool b2
    · cases hy
      obtain ⟨t2, rfl⟩ := ru
      show RcAt A s _ _ false
      exact RcAt.none_int i2 t2
    · cases hy
      obtain ⟨t2, rfl⟩ := ru
      show RcAt A s _ _ false
      exact RcAt.none_str x2 t2
  · cases hx
    cases rv
    rcases ay with rfl | ⟨b2, rfl⟩ | ⟨i2, rfl⟩ | ⟨x2, rfl⟩
    · cases hy
      cases ru
      show RcAt A s _ _ false
      exact RcAt.bool_none b1
    · cases hy
      cases ru
      show RcAt A s _ _ (b1 == b2)
      exact RcAt.bool_bool b1 b2
    · cases hy
      obtain ⟨t2, rfl⟩ := ru
      show RcAt A s _ _ ((if b1 then 1 else 0) == i2)
      exact RcAt.bool_int b1 i2 t2
    · cases hy
      obtain ⟨t2, rfl⟩ := ru
      show RcAt A s _ _ false
      exact RcAt.bool_str b1 x2 t2
  · cases hx
    obtain ⟨t1, rfl⟩ := rv
    rcases ay with rfl | ⟨b2, rfl⟩ | ⟨i2, rfl⟩ | ⟨x2, rfl⟩
    · cases hy
      cases ru
      show RcAt A s _ _ false
      exact RcAt.int_none i1 t1
    · cases hy
      cases ru
      show RcAt A s _ _ (i1 == (if b2 then 1 else 0))
      exact RcAt.int_bool i1 t1 b2
    · cases hy
      obtain ⟨t2, rfl⟩ := ru
      show RcAt A s _ _ (i1 == i2)
      exact RcAt.int_int i1 t1 i2 t2
    · cases hy
      obtain ⟨t2, rfl⟩ := ru
      show RcAt A s _ _ false
      exact RcAt.int_str i1 t1 x2 t2
  · cases hx
    obtain ⟨t1, rfl⟩ := rv
    rcases ay with rfl | ⟨b2, rfl⟩ | ⟨i2, rfl⟩ | ⟨x2, rfl⟩
    · cases hy
      cases ru
      show RcAt A s _ _ false
      exact RcAt.str_none x1 t1
    · cases hy
      cases ru
      show RcAt A s _ _ false
      exact RcAt.str_bool x1 t1 b2
    · cases hy
      obtain ⟨t2, rfl⟩ := ru
      show RcAt A s _ _ false
      exact RcAt.str_int x1 t1 i2 t2
    · cases hy
      obtain ⟨t2, rfl⟩ := ru
      show RcAt A s _ _ (x1 == x2)
      exact RcAt.str_str x1 t1 x2 t2
open PySem.SeqAt in
theorem rcat_seq {K : Frag} {A : Around} {v : V} {a : Value} {l : Addr} {its : Array Value} (hu : A.units < cLine) : ∀ {x : W}, Dq K H v x → RelV v a → (x = .non ∨ (∃ b, x = .bl b) ∨ (∃ i, x = .int i) ∨ ∃ z, x = .str z) →
    (s.heap.IsTuple l its → RcAt A s a (.ref l) false ∧ RcAt A s (.ref l) a false) ∧ (s.heap.IsList l its → RcAt A s a (.ref l) false ∧ RcAt A s (.ref l) a false) := by
  intro x hx rv ax
  rcases ax with rfl | ⟨b1, rfl⟩ | ⟨i1, rfl⟩ | ⟨x1, rfl⟩
  · cases hx
    cases rv
    exact ⟨fun t => ⟨RcAt.none_tuple t hu, RcAt.tuple_none t hu⟩, fun t => ⟨RcAt.none_list t hu, RcAt.list_none t hu⟩⟩
  · cases hx
    cases rv
    exact ⟨fun t => ⟨RcAt.bool_tuple b1 t hu, RcAt.tuple_bool b1 t hu⟩, fun t => ⟨RcAt.bool_list b1 t hu, RcAt.list_bool b1 t hu⟩⟩
  · cases hx
    obtain ⟨t1, rfl⟩ := rv
    exact ⟨fun t => ⟨RcAt.int_tuple i1 t1 t hu, RcAt.tuple_int i1 t1 t hu⟩, fun t => ⟨RcAt.int_list i1 t1 t hu, RcAt.list_int i1 t1 t hu⟩⟩
  · cases hx
    obtain ⟨t1, rfl⟩ := rv
    exact ⟨fun t => ⟨RcAt.str_tuple x1 t1 t hu, RcAt.tuple_str x1 t1 t hu⟩, fun t => ⟨RcAt.str_list x1 t1 t hu, RcAt.list_str x1 t1 t hu⟩⟩
open PySem.SeqAt in
theorem rcat_top (I : Inv X pins σ H s) (n : Nat) (x y : W) (v u : V) (a b : Value) (A : Around) (hx : Dq X.K H v x) (hy : Dq X.K H u y) (dx : isD n x = true) (dy : isD n y = true) (rv : RelV v a) (ru : RelV u b) (hu : A.units + n < cLine) : RcAt A s a b (eqW x y) := by
  have hu0 : A.units < cLine := by omega
  rcases atom_or n x dx with hx1 | ⟨m, hm, hx1⟩
  · rcases atom_or n y dy with hy1 | ⟨m', hm', hy1⟩
    · exact rcat_atoms hx hy rv ru hx1 hy1
    · have e0 : eqW x y = false := by
        rcases hx1 with rfl | ⟨_, rfl⟩ | ⟨_, rfl⟩ | ⟨_, rfl⟩ <;> rcases hy1 with ⟨ws, rfl, d⟩ | ⟨ws, rfl, d⟩ <;> simp only [eqW]
      rw [e0]
      rcases hy1 with ⟨ws, rfl, d⟩ | ⟨ws, rfl, d⟩
      · cases hy with
        | tup q hs =>
          cases ru
          obtain ⟨its, r, t, z⟩ := I.tuple q
          exact ((rcat_seq hu0 hx rv hx1).1 t).1
      · cases hy with
        | lst q hs =>
          cases ru
          obtain ⟨its, r, t, z⟩ := I.list q
          exact ((rcat_seq hu0 hx rv hx1).2 t.isList).1
  · subst hm
    have each : ∀ {xs ys : List W} {vs us : List V} {as bs : List Value}, DqAll X.K H vs xs → DqAll X.K H us ys → isDs m xs = true → isDs m ys = true → Vals vs as → Vals us bs → ∀ j (h1 : j < as.toArray.size) (h2 : j < bs.toArray.size), EqAt A.in1 s as.toArray[j] bs.toArray[j] (eqAtW xs ys j) := by
      intro xs ys vs us as bs e1 e2 d1 d2 r1 r2 j h1 h2
      obtain ⟨v1, f1, g1⟩ := val_at j (by simpa using h1) r1
      obtain ⟨v2, f2, g2⟩ := val_at j (by simpa using h2) r2
      obtain ⟨w1, k1, l1⟩ := dq_at e1 f1
      obtain ⟨w2, k2, l2⟩ := dq_at e2 f2
      have := eq_at I m w1 w2 v1 v2 _ _ A.in1 l1 l2 (isD_mem d1 k1) (isD_mem d2 k2) g1 g2 (by show A.units + 1 + m < cLine; omega)
      unfold eqAtW
      rw [k1, k2]
      simpa using this
    rcases hx1 with ⟨ws, rfl, d⟩ | ⟨ws, rfl, d⟩
    · cases hx with
      | tup q hs =>
        cases rv
        obtain ⟨its, r, t, z⟩ := I.tuple q
        rcases atom_or (m + 1) y dy with hy1 | ⟨m', hm', hy1⟩
        · have e0 : eqW (.tup ws) y = false := by
            rcases hy1 with rfl | ⟨_, rfl⟩ | ⟨_, rfl⟩ | ⟨_, rfl⟩ <;> simp only [eqW]
          rw [e0]
          exact ((rcat_seq hu0 hy ru hy1).1 t).2
        · have hm2 : m' = m := by omega
          subst hm2
          rcases hy1 with ⟨us, rfl, d2⟩ | ⟨us, rfl, d2⟩
          · cases hy with
            | tup q2 hs2 =>
              cases ru
              obtain ⟨its2, r2, t2, z2⟩ := I.tuple q2
              have n1 : its.toArray.size = ws.length := by simpa using r.length.symm.trans hs.len
              have n2 : its2.toArray.size = us.length := by simpa using r2.length.symm.trans hs2.len
              have w0 := RcAt.tuples t t2 hu0 (each hs hs2 d d2 r r2)
              rw [n1, n2, ← eqWs_all] at w0
              exact w0
          · cases hy with
            | lst q2 hs2 =>
              cases ru
              obtain ⟨its2, r2, t2, z2⟩ := I.list q2
              exact RcAt.tuple_list t t2.isList hu0
    · cases hx with
      | lst q hs =>
        cases rv
        obtain ⟨its, r, t, z⟩ := I.list q
        rcases atom_or (m + 1) y dy with hy1 | ⟨m', hm', hy1⟩
        · have e0 : eqW (.lst ws) y = false := by
            rcases hy1 with rfl | ⟨_, rfl⟩ | ⟨_, rfl⟩ | ⟨_, rfl⟩ <;> simp only [eqW]
          rw [e0]
          exact ((rcat_seq hu0 hy ru hy1).2 t.isList).2
        · have hm2 : m' = m := by omega
          subst hm2
          rcases hy1 with ⟨us, rfl, d2⟩ | ⟨us, rfl, d2⟩
          · cases hy with
            | tup q2 hs2 =>
              cases ru
              obtain ⟨its2, r2, t2, z2⟩ := I.tuple q2
              exact RcAt.list_tuple t.isList t2 hu0
          · cases hy with
            | lst q2 hs2 =>
              cases ru
              obtain ⟨its2, r2, t2, z2⟩ := I.list q2
              have n1 : its.toArray.size = ws.length := by simpa using r.length.symm.trans hs.len
              have n2 : its2.toArray.size = us.length := by simpa using r2.length.symm.trans hs2.len
              by_cases hz : its.toArray.size = its2.toArray.size
              · have w0 := RcAt.lists t.isList t2.isList hz hu0 (each hs hs2 d d2 r r2)
                have e3 : eqW (.lst ws) (.lst us) = (List.range its.toArray.size).all (eqAtW ws us) := by
                  show eqWs ws us = _
                  rw [eqWs_all]
                  have e4 : ws.length = us.length := by omega
                  rw [n1, ← e4, Nat.min_self]
                  simp
                rw [e3]
                exact w0
              · have e3 : eqW (.lst ws) (.lst us) = false := by
                  show eqWs ws us = _
                  rw [eqWs_all]
                  have e4 : ws.length ≠ us.length := by omega
                  simp [e4]
                rw [e3]
                exact RcAt.lists_lengths t.isList t2.isList (by simpa using hz) hu0
open PySem.SeqAt in
theorem rcneat_atoms {K : Frag} {A : Around} {v u : V} {a b : Value} : ∀ {x y : W}, Dq K H v x → Dq K H u y → RelV v a → RelV u b → (x = .non ∨ (∃ b, x = .bl b) ∨ (∃ i, x = .int i) ∨ ∃ z, x = .str z) → (y = .non ∨ (∃ b, y = .bl b) ∨ (∃ i, y = .int i) ∨ ∃ z, y = .str z) → RcNeAt A s a b (!eqW x y) := by
  intro x y hx hy rv ru ax ay
  rcases ax with rfl | ⟨b1, rfl⟩ | ⟨i1, rfl⟩ | ⟨x1, rfl⟩
  · cases hx
    cases rv
    rcases ay with rfl | ⟨b2, rfl⟩ | ⟨i2, rfl⟩ | ⟨x2, rfl⟩
    · cases hy
      cases ru
      show RcNeAt A s _ _ false
      exact RcNeAt.none_none
    · cases hy
      cases ru
      show RcNeAt A s _ _ true
      exact RcNeAt.none_bool b2
    · cases hy
      obtain ⟨t2, rfl⟩ := ru
      show RcNeAt A s _ _ true
      exact RcNeAt.none_int i2 t2
    · cases hy
      obtain ⟨t2, rfl⟩ := ru
      show RcNeAt A s _ _ true
      exact RcNeAt.none_str x2 t2
  · cases hx
    cases rv
    rcases ay with rfl | ⟨b2, rfl⟩ | ⟨i2, rfl⟩ | ⟨x2, rfl⟩
    · cases hy
      cases ru
      show RcNeAt A s _ _ true
      exact RcNeAt.bool_none b1
    · cases hy
      cases ru
      show RcNeAt A s _ _ (!(b1 == b2))
      exact RcNeAt.bool_bool b1 b2
    · cases hy
      obtain ⟨t2, rfl⟩ := ru
      show RcNeAt A s _ _ (!((if b1 then 1 else 0) == i2))
      exact RcNeAt.bool_int b1 i2 t2
    · cases hy
      obtain ⟨t2, rfl⟩ := ru
      show RcNeAt A s _ _ true
      exact RcNeAt.bool_str b1 x2 t2
  · cases hx
    obtain ⟨t1, rfl⟩ := rv
    rcases ay with rfl | ⟨b2, rfl⟩ | ⟨i2, rfl⟩ | ⟨x2, rfl⟩
    · cases hy
      cases ru
      show RcNeAt A s _ _ true
      exact RcNeAt.int_none i1 t1
    · cases hy
      cases ru
      show RcNeAt A s _ _ (!(i1 == (if b2 then 1 else 0)))
      exact RcNeAt.int_bool i1 t1 b2
    · cases hy
      obtain ⟨t2, rfl⟩ := ru
      show RcNeAt A s _ _ (!(i1 == i2))
      exact RcNeAt.int_int i1 t1 i2 t2
    · cases hy
      obtain ⟨t2, rfl⟩ := ru
      show RcNeAt A s _ _ true
      exact RcNeAt.int_str i1 t1 x2 t2
  · cases hx
    obtain ⟨t1, rfl⟩ := rv
    rcases ay with rfl | ⟨b2, rfl⟩ | ⟨i2, rfl⟩ | ⟨x2, rfl⟩
    · cases hy
      cases ru
      show RcNeAt A s _ _ true
      exact RcNeAt.str_none x1 t1
    · cases hy
      cases ru
      show RcNeAt A s _ _ true
      exact RcNeAt.str_bool x1 t1 b2
    · cases hy
      obtain ⟨t2, rfl⟩ := ru
      show RcNeAt A s _ _ true
      exact RcNeAt.str_int x1 t1 i2 t2
    · cases hy
      obtain ⟨t2, rfl⟩ := ru
      show RcNeAt A s _ _ (!(x1 == x2))
      exact RcNeAt.str_str x1 t1 x2 t2
open PySem.SeqAt in
theorem rcneat_seq {K : Frag} {A : Around} {v : V} {a : Value} {l : Addr} {its : Array Value} (hu : A.units < cLine) : ∀ {x : W}, Dq K H v x → RelV v a → (x = .non ∨ (∃ b, x = .bl b) ∨ (∃ i, x = .int i) ∨ ∃ z, x = .str z) →
    (s.heap.IsTuple l its → RcNeAt A s a (.ref l) true ∧ RcNeAt A s (.ref l) a true) ∧ (s.heap.IsList l its → RcNeAt A s a (.ref l) true ∧ RcNeAt A s (.ref l) a true) := by
  intro x hx rv ax
  rcases ax with rfl | ⟨b1, rfl⟩ | ⟨i1, rfl⟩ | ⟨x1, rfl⟩
  · cases hx
    cases rv
    exact ⟨fun t => ⟨RcNeAt.none_tuple t hu, RcNeAt.tuple_none t hu⟩, fun t => ⟨RcNeAt.none_list t hu, RcNeAt.list_none t hu⟩⟩
  · cases hx
    cases rv
    exact ⟨fun t => ⟨RcNeAt.bool_tuple b1 t hu, RcNeAt.tuple_bool b1 t hu⟩, fun t => ⟨RcNeAt.bool_list b1 t hu, RcNeAt.list_bool b1 t hu⟩⟩
  · cases hx
    obtain ⟨t1, rfl⟩ := rv
    exact ⟨fun t => ⟨RcNeAt.int_tuple i1 t1 t hu, RcNeAt.tuple_int i1 t1 t hu⟩, fun t => ⟨RcNeAt.int_list i1 t1 t hu, RcNeAt.list_int i1 t1 t hu⟩⟩
  · cases hx
    obtain ⟨t1, rfl⟩ := rv
    exact ⟨fun t => ⟨RcNeAt.str_tuple x1 t1 t hu, RcNeAt.tuple_str x1 t1 t hu⟩, fun t => ⟨RcNeAt.str_list x1 t1 t hu, RcNeAt.list_str x1 t1 t hu⟩⟩
open PySem.SeqAt in
theorem rcneat_top (I : Inv X pins σ H s) (n : Nat) (x y : W) (v u : V) (a b : Value) (A : Around) (hx : Dq X.K H v x) (hy : Dq X.K H u y) (dx : isD n x = true) (dy : isD n y = true) (rv : RelV v a) (ru : RelV u b) (hu : A.units + n < cLine) : RcNeAt A s a b (!eqW x y) := by
  have hu0 : A.units < cLine := by omega
  rcases atom_or n x dx with hx1 | ⟨m, hm, hx1⟩
  · rcases atom_or n y dy with hy1 | ⟨m', hm', hy1⟩
    · exact rcneat_atoms hx hy rv ru hx1 hy1
    · have e0 : eqW x y = false := by
        rcases hx1 with rfl | ⟨_, rfl⟩ | ⟨_, rfl⟩ | ⟨_, rfl⟩ <;> rcases hy1 with ⟨ws, rfl, d⟩ | ⟨ws, rfl, d⟩ <;> simp only [eqW]
      rw [e0]
      rcases hy1 with ⟨ws, rfl, d⟩ | ⟨ws, rfl, d⟩
      · cases hy with
        | tup q hs =>
          cases ru
          obtain ⟨its, r, t, z⟩ := I.tuple q
          exact ((rcneat_seq hu0 hx rv hx1).1 t).1
      · cases hy with
        | lst q hs =>
          cases ru
          obtain ⟨its, r, t, z⟩ := I.list q
          exact ((rcneat_seq hu0 hx rv hx1).2 t.isList).1
  · subst hm
    have each : ∀ {xs ys : List W} {vs us : List V} {as bs : List Value}, DqAll X.K H vs xs → DqAll X.K H us ys → isDs m xs = true → isDs m ys = true → Vals vs as → Vals us bs → ∀ j (h1 : j < as.toArray.size) (h2 : j < bs.toArray.size), EqAt A.in1 s as.toArray[j] bs.toArray[j] (eqAtW xs ys j) := by
      intro xs ys vs us as bs e1 e2 d1 d2 r1 r2 j h1 h2
      obtain ⟨v1, f1, g1⟩ := val_at j (by simpa using h1) r1
      obtain ⟨v2, f2, g2⟩ := val_at j (by simpa using h2) r2
      obtain ⟨w1, k1, l1⟩ := dq_at e1 f1
      obtain ⟨w2, k2, l2⟩ := dq_at e2 f2
      have := eq_at I m w1 w2 v1 v2 _ _ A.in1 l1 l2 (isD_mem d1 k1) (isD_mem d2 k2) g1 g2 (by show A.units + 1 + m < cLine; omega)
      unfold eqAtW
      rw [k1, k2]
      simpa using this
    rcases hx1 with ⟨ws, rfl, d⟩ | ⟨ws, rfl, d⟩
    · cases hx with
      | tup q hs =>
        cases rv
        obtain ⟨its, r, t, z⟩ := I.tuple q
        rcases atom_or (m + 1) y dy with hy1 | ⟨m', hm', hy1⟩
        · have e0 : eqW (.tup ws) y = false := by
            rcases hy1 with rfl | ⟨_, rfl⟩ | ⟨_, rfl⟩ | ⟨_, rfl⟩ <;> simp only [eqW]
          rw [e0]
          exact ((rcneat_seq hu0 hy ru hy1).1 t).2
        · have hm2 : m' = m := by omega
          subst hm2
          rcases hy1 with ⟨us, rfl, d2⟩ | ⟨us, rfl, d2⟩
          · cases hy with
            | tup q2 hs2 =>
              cases ru
              obtain ⟨its2, r2, t2, z2⟩ := I.tuple q2
              have n1 : its.toArray.size = ws.length := by simpa using r.length.symm.trans hs.len
              have n2 : its2.toArray.size = us.length := by simpa using r2.length.symm.trans hs2.len
              have w0 := RcNeAt.tuples t t2 hu0 (each hs hs2 d d2 r r2)
              rw [n1, n2, ← eqWs_all] at w0
              exact w0
          · cases hy with
            | lst q2 hs2 =>
              cases ru
              obtain ⟨its2, r2, t2, z2⟩ := I.list q2
              exact RcNeAt.tuple_list t t2.isList hu0
    · cases hx with
      | lst q hs =>
        cases rv
        obtain ⟨its, r, t, z⟩ := I.list q
        rcases atom_or (m + 1) y dy with hy1 | ⟨m', hm', hy1⟩
        · have e0 : eqW (.lst ws) y = false := by
            rcases hy1 with rfl | ⟨_, rfl⟩ | ⟨_, rfl⟩ | ⟨_, rfl⟩ <;> simp only [eqW]
          rw [e0]
          exact ((rcneat_seq hu0 hy ru hy1).2 t.isList).2
        · have hm2 : m' = m := by omega
          subst hm2
          rcases hy1 with ⟨us, rfl, d2⟩ | ⟨us, rfl, d2⟩
          · cases hy with
            | tup q2 hs2 =>
              cases ru
              obtain ⟨its2, r2, t2, z2⟩ := I.tuple q2
              exact RcNeAt.list_tuple t.isList t2 hu0
          · cases hy with
            | lst q2 hs2 =>
              cases ru
              obtain ⟨its2, r2, t2, z2⟩ := I.list q2
              have n1 : its.toArray.size = ws.length := by simpa using r.length.symm.trans hs.len
              have n2 : its2.toArray.size = us.length := by simpa using r2.length.symm.trans hs2.len
              by_cases hz : its.toArray.size = its2.toArray.size
              · have w0 := RcNeAt.lists t.isList t2.isList hz hu0 (each hs hs2 d d2 r r2)
                have e3 : eqW (.lst ws) (.lst us) = (List.range its.toArray.size).all (eqAtW ws us) := by
                  show eqWs ws us = _
                  rw [eqWs_all]
                  have e4 : ws.length = us.length := by omega
                  rw [n1, ← e4, Nat.min_self]
                  simp
                rw [e3]
                exact w0
              · have e3 : eqW (.lst ws) (.lst us) = false := by
                  show eqWs ws us = _
                  rw [eqWs_all]
                  have e4 : ws.length ≠ us.length := by omega
                  simp [e4]
                rw [e3]
                exact RcNeAt.lists_lengths t.isList t2.isList (by simpa using hz) hu0
end
end Q
namespace Q
open PySem L2 Evl
/-! x in xs, data of any depth -/
section
variable {X : Cx} {pins : List (Addr × Obj)} {σ : St} {H : Hp} {s : Shared}
/-- x == y, x != y -/
def rEqQ (K : Frag) (neg : Bool) : R2 := fun x y H Q => ∃ (a b : W), Dq K H x a ∧ Dq K H y b ∧ isD 60 a = true ∧ isD 60 b = true ∧ Q (.bl (if neg then !eqW a b else eqW a b)) H
theorem op_eqQ (hu : X.A.units + 64 < cLine) : OpR X (compareOp .Eq) (rEqQ X.K false) := by
  intro pins s σ H x y v u Q I rx ry h
  obtain ⟨a, b, da, db, ka, kb, q⟩ := h
  exact rcat_top I 60 a b x y v u X.A da db ka kb rx ry (by omega) _ _ _ _ ⟨.bl _, H, I, rfl, q⟩
theorem op_neQ (hu : X.A.units + 64 < cLine) : OpR X (compareOp .NotEq) (rEqQ X.K true) := by
  intro pins s σ H x y v u Q I rx ry h
  obtain ⟨a, b, da, db, ka, kb, q⟩ := h
  exact rcneat_top I 60 a b x y v u X.A da db ka kb rx ry (by omega) _ _ _ _ ⟨.bl _, H, I, rfl, q⟩
end
end Q
namespace Q
open PySem L2 Evl
/-! operations on values -/
def sLt (a b : Str) : Bool := decide (a.cps.toList < b.cps.toList)
@[reducible] def rdL (μ : Mu) (w : W) : Option (List W) := match w with
  | .lst ws => some ws
  | .rol ws => some ws
  | .ref p => (match μ p with
    | some (.ls ws) => some ws
    | _ => none)
  | _ => none
/-- no script -/
@[reducible] def rdM (μ : Mu) (w : W) : Option (List W) := match w with
  | .lst ws => some ws
  | .ref p => (match μ p with
    | some (.ls ws) => some ws
    | _ => none)
  | _ => none
theorem rdL_at {K : Frag} {H : Hp} {μ : Mu} {v : V} {w : W} {ws : List W} (h : rdL μ w = some ws) (r : Rw K H μ v w) (m : Mem K H μ) : ∃ a vs, v = .ref a ∧ SqL K H a vs ∧ RwAll K H μ vs ws := by
  unfold rdL at h
  split at h
  · cases h
    cases r with
    | lst h hs => exact ⟨_, _, rfl, .inl (.inl h.1), hs⟩
  · cases h
    cases r with
    | rol h hs => exact ⟨_, _, rfl, .inl h.1, hs⟩
  · split at h
    · cases h
      rename_i e
      cases r
      obtain ⟨vs, h1, h2⟩ := m _ _ e
      exact ⟨_, vs, rfl, .inl (.inl h1), h2⟩
    · cases h
  · cases h
theorem rdM_at {K : Frag} {H : Hp} {μ : Mu} {v : V} {w : W} {ws : List W} (h : rdM μ w = some ws) (r : Rw K H μ v w) (m : Mem K H μ) : ∃ a vs, v = .ref a ∧ H a = some (.lst vs) ∧ RwAll K H μ vs ws := by
  unfold rdM at h
  split at h
  · cases h
    cases r with
    | lst h hs => exact ⟨_, _, rfl, h.1, hs⟩
  · split at h
    · cases h
      rename_i e
      cases r
      obtain ⟨vs, h1, h2⟩ := m _ _ e
      exact ⟨_, vs, rfl, h1, h2⟩
    · cases h
  · cases h
theorem big {n : Nat} (h : n ≤ 16000000) : n ≤ sizeLine := by
  rw [sizeLine_eq]
  omega
theorem biglt {n : Nat} (h : n < 16000000) : n < sizeLine := by
  rw [sizeLine_eq]
  omega
theorem VL.now {K : Frag} {Q : VK} {μ : Mu} {H : Hp} {P : Po} (l : VL K Q μ H P) {w : W} {v : V} (p : P w μ) (m : Mem K H μ) (r : Rw K H μ v w) : Q v H := l w μ v H p (Stp.refl μ H) m r
theorem VL.tup {K : Frag} {Q : VK} {μ : Mu} {H : Hp} {P : Po} (l : VL K Q μ H P) {ws : List W} {vs : List V} (p : P (.tup ws) μ) (m : Mem K H μ) (r : RwAll K H μ vs ws) {a : Addr} (ha : H a = none) : Q (.ref a) (upd H a (.tup vs)) := l _ μ _ _ p (Stp.new ha) (m.new ha) (new_tup m ha r)
theorem VL.lst {K : Frag} {Q : VK} {μ : Mu} {H : Hp} {P : Po} (l : VL K Q μ H P) {ws : List W} {vs : List V} (p : P (.lst ws) μ) (m : Mem K H μ) (r : RwAll K H μ vs ws) {a : Addr} (ha : H a = none) : Q (.ref a) (upd H a (.lst vs)) := l _ μ _ _ p (Stp.new ha) (m.new ha) (new_lst m ha r)
theorem VL.ls {K : Frag} {Q : VK} {μ : Mu} {H : Hp} {P : Po} (l : VL K Q μ H P) {ws : List W} {vs : List V} (p : ∀ p, μ p = none → P (.ref p) (mset μ p (.ls ws))) (m : Mem K H μ) (r : RwAll K H μ vs ws) {a : Addr} (ha : H a = none) : Q (.ref a) (upd H a (.lst vs)) := l _ _ _ _ (p a (m.free ha)) (Stp.newT ha) (new_ls m ha r) (.ref a)
@[reducible] def wAdd : F2 := fun x y μ P => match x with
  | .int i => (match y with
    | .int j => P (.int (i + j)) μ
    | _ => False)
  | .str a => (match y with
    | .str b => a.length + b.length ≤ 16000000 ∧ P (.str (a ++ b)) μ
    | _ => False)
  | .tup xs => (match y with
    | .tup ys => xs.length + ys.length ≤ 16000000 ∧ P (.tup (xs ++ ys)) μ
    | _ => False)
  | x => (match rdM μ x with
    | some xs => (match rdM μ y with
      | some ys => xs.length + ys.length ≤ 16000000 ∧ P (.lst (xs ++ ys)) μ
      | none => False)
    | none => False)
@[reducible] def wSub : F2 := fun x y μ P => match x, y with
  | .int i, .int j => P (.int (i - j)) μ
  | _, _ => False
def MulO (i j : Int) : Prop := CMul i j ∨ CMulW i j
theorem MulO.l {i j : Int} (h : -(2 ^ 64) < i ∧ i < 2 ^ 64 := by decide) : MulO i j := .inl (.inl h)
theorem MulO.r {i j : Int} (h : -(2 ^ 64) < j ∧ j < 2 ^ 64 := by decide) : MulO i j := .inl (.inr h)
@[reducible] def wMul : F2 := fun x y μ P => match x with
  | .int i => (match y with
    | .int j => MulO i j ∧ P (.int (i * j)) μ
    | _ => False)
  | .str a => (match y with
    | .int j => MulOk a j ∧ P (.str (Txt.mul a j)) μ
    | _ => False)
  | _ => False
@[reducible] def wFdv : F2 := fun x y μ P => match x, y with
  | .int i, .int j => (0 < j ∧ j < 1073741824) ∧ P (.int (i / j)) μ
  | _, _ => False
@[reducible] def wMod : F2 := fun x y μ P => match x, y with
  | .int i, .int j => 0 < j ∧ P (.int (i % j)) μ
  | _, _ => False
@[reducible] def wPow : F2 := fun x y μ P => match x, y with
  | .int i, .int j => CPow i j ∧ P (.int (i ^ j.toNat)) μ
  | _, _ => False
@[reducible] def wNeg : F1 := fun x μ P => match x with
  | .int i => P (.int (-i)) μ
  | _ => False
@[reducible] def wLt : F2 := fun x y μ P => match x with
  | .int i => (match y with
    | .int j => P (.bl (decide (i < j))) μ
    | _ => False)
  | .str a => (match y with
    | .str b => P (.bl (sLt a b)) μ
    | _ => False)
  | _ => False
@[reducible] def wLe : F2 := fun x y μ P => match x with
  | .int i => (match y with
    | .int j => P (.bl (decide (i ≤ j))) μ
    | _ => False)
  | .str a => (match y with
    | .str b => P (.bl (!sLt b a)) μ
    | _ => False)
  | _ => False
@[reducible] def wGt : F2 := fun x y μ P => match x with
  | .int i => (match y with
    | .int j => P (.bl (decide (j < i))) μ
    | _ => False)
  | .str a => (match y with
    | .str b => P (.bl (sLt b a)) μ
    | _ => False)
  | _ => False
@[reducible] def wGe : F2 := fun x y μ P => match x with
  | .int i => (match y with
    | .int j => P (.bl (decide (j ≤ i))) μ
    | _ => False)
  | .str a => (match y with
    | .str b => P (.bl (!sLt a b)) μ
    | _ => False)
  | _ => False
@[reducible] def drf (μ : Mu) (w : W) : W := match w with
  | .rol ws => .lst ws
  | .ref p => (match μ p with
    | some (.ls ws) => .lst ws
    | _ => .ref p)
  | w => w
def wEqG (neg : Bool) : F2 := fun x y μ P => isD 60 (drf μ x) = true ∧ isD 60 (drf μ y) = true ∧ P (.bl (if neg then !eqW (drf μ x) (drf μ y) else eqW (drf μ x) (drf μ y))) μ
@[reducible] def wEq : F2 := fun x y μ P => match x with
  | .int i => (match y with
    | .int j => P (.bl (decide (i = j))) μ
    | y => wEqG false (.int i) y μ P)
  | .str a => (match y with
    | .str b => P (.bl (decide (a = b))) μ
    | y => wEqG false (.str a) y μ P)
  | .bl a => (match y with
    | .bl b => P (.bl (decide (a = b))) μ
    | y => wEqG false (.bl a) y μ P)
  | x => wEqG false x y μ P
@[reducible] def wNe : F2 := fun x y μ P => match x with
  | .int i => (match y with
    | .int j => P (.bl (!decide (i = j))) μ
    | y => wEqG true (.int i) y μ P)
  | .str a => (match y with
    | .str b => P (.bl (!decide (a = b))) μ
    | y => wEqG true (.str a) y μ P)
  | .bl a => (match y with
    | .bl b => P (.bl (!decide (a = b))) μ
    | y => wEqG true (.bl a) y μ P)
  | x => wEqG true x y μ P
@[reducible] def isN (w : W) : Bool := match w with
  | .non => true
  | _ => false
@[reducible] def wIs : F2 := fun x y μ P => match y with
  | .non => P (.bl (isN x)) μ
  | .bl b => (match x with
    | .bl a => P (.bl (decide (a = b))) μ
    | _ => False)
  | _ => False
@[reducible] def wIsnt : F2 := fun x y μ P => match y with
  | .non => P (.bl (!isN x)) μ
  | .bl b => (match x with
    | .bl a => P (.bl (!decide (a = b))) μ
    | _ => False)
  | _ => False
section
variable {X : Cx}
theorem rw_int {K : Frag} {H : Hp} {μ : Mu} {v : V} {i : Int} (h : Rw K H μ v (.int i)) : v = .int i := by
  cases h
  rfl
theorem rw_str {K : Frag} {H : Hp} {μ : Mu} {v : V} {i : Str} (h : Rw K H μ v (.str i)) : v = .str i := by
  cases h
  rfl
theorem opU_add : OpR X (binaryOp .Add) (rW X.K wAdd) := opR_imp (op_add.or (op_add_str.or (op_catA.or op_cat))) fun x y H Q h => by
  obtain ⟨wx, wy, μ, P, rx, ry, m, h, l⟩ := h
  unfold wAdd at h
  split at h
  · split at h
    · exact .inl ⟨_, _, rw_int rx, rw_int ry, l.now h m (.int _)⟩
    · exact h.elim
  · split at h
    · exact .inr (.inl ⟨_, _, rw_str rx, rw_str ry, big h.1, l.now h.2 m (.str _)⟩)
    · exact h.elim
  · split at h
    · cases rx with
      | tup q hs =>
        cases ry with
        | tup q2 hs2 =>
          have l1 := hs.len
          have l2 := hs2.len
          refine .inr (.inr (.inl ⟨_, _, _, _, rfl, rfl, tup_sq q, tup_sq q2, big (by omega), fun e => ?_, fun _ e => ?_, fun _ _ p hp => l.tup h.2 m (hs.app hs2) hp⟩))
          · subst e
            cases hs
            exact l.now h.2 m (.tup q2 hs2)
          · subst e
            cases hs2
            exact l.now h.2 m (.tup q (by rw [List.append_nil]; exact hs))
    · exact h.elim
  · split at h
    · rename_i xs ex
      split at h
      · rename_i ys ey
        obtain ⟨a, vs, rfl, ha, r1⟩ := rdM_at ex rx m
        obtain ⟨b, us, rfl, hb, r2⟩ := rdM_at ey ry m
        have l1 := r1.len
        have l2 := r2.len
        exact .inr (.inr (.inr ⟨a, b, vs, us, rfl, rfl, ha, hb, big (by omega), fun p hp => l.lst h.2 m (r1.app r2) hp⟩))
      · exact h.elim
    · exact h.elim
theorem opU_sub : OpR X (binaryOp .Sub) (rW X.K wSub) := opR_imp op_sub fun x y H Q h => by
  obtain ⟨wx, wy, μ, P, rx, ry, m, h, l⟩ := h
  unfold wSub at h
  split at h
  · exact ⟨_, _, rw_int rx, rw_int ry, l.now h m (.int _)⟩
  · exact h.elim
def rRepS : R2 := fun x y H Q => ∃ z i, x = .str z ∧ y = .int i ∧ MulOk z i ∧ Q (.str (Txt.mul z i)) H
theorem op_repS {X : Cx} : OpR X (binaryOp .Mult) rRepS := by
  intro pins s σ H x y v u Q I rx ry h
  obtain ⟨z, i, rfl, rfl, ok, q⟩ := h
  obtain ⟨t, rfl⟩ := rx
  obtain ⟨t', rfl⟩ := ry
  exact SB.mul ok fun t2 k => ⟨.str (Txt.mul z i), H, I.tok _, ⟨_, rfl⟩, q⟩
theorem opU_mul : OpR X (binaryOp .Mult) (rW X.K wMul) := opR_imp (op_mul.or (op_mulW.or op_repS)) fun x y H Q h => by
  obtain ⟨wx, wy, μ, P, rx, ry, m, h, l⟩ := h
  unfold wMul at h
  split at h
  · split at h
    · rcases h.1 with c | c
      · exact .inl ⟨_, _, rw_int rx, rw_int ry, c, l.now h.2 m (.int _)⟩
      · exact .inr (.inl ⟨_, _, rw_int rx, rw_int ry, c, l.now h.2 m (.int _)⟩)
    · exact h.elim
  · split at h
    · exact .inr (.inr ⟨_, _, rw_str rx, rw_int ry, h.1, l.now h.2 m (.str _)⟩)
    · exact h.elim
  · exact h.elim
theorem opU_fdv : OpR X (binaryOp .FloorDiv) (rW X.K wFdv) := opR_imp op_fdiv fun x y H Q h => by
  obtain ⟨wx, wy, μ, P, rx, ry, m, h, l⟩ := h
  unfold wFdv at h
  split at h
  · exact ⟨_, _, rw_int rx, rw_int ry, h.1, l.now h.2 m (.int _)⟩
  · exact h.elim
theorem opU_mod : OpR X (binaryOp .Mod) (rW X.K wMod) := opR_imp op_mod fun x y H Q h => by
  obtain ⟨wx, wy, μ, P, rx, ry, m, h, l⟩ := h
  unfold wMod at h
  split at h
  · exact ⟨_, _, rw_int rx, rw_int ry, h.1, l.now h.2 m (.int _)⟩
  · exact h.elim
theorem opU_pow : OpR X (binaryOp .Pow) (rW X.K wPow) := opR_imp op_pow fun x y H Q h => by
  obtain ⟨wx, wy, μ, P, rx, ry, m, h, l⟩ := h
  unfold wPow at h
  split at h
  · exact ⟨_, _, rw_int rx, rw_int ry, h.1, l.now h.2 m (.int _)⟩
  · exact h.elim
theorem unU_neg : UnR X (unaryOp .USub) (rW1 X.K wNeg) := unR_imp un_neg fun x H Q h => by
  obtain ⟨wx, μ, P, rx, m, h, l⟩ := h
  unfold wNeg at h
  split at h
  · exact ⟨_, rw_int rx, l.now h m (.int _)⟩
  · exact h.elim
theorem opU_lt : OpR X (compareOp .Lt) (rW X.K wLt) := opR_imp (op_lt.or op_lt_str) fun x y H Q h => by
  obtain ⟨wx, wy, μ, P, rx, ry, m, h, l⟩ := h
  unfold wLt at h
  split at h
  · split at h
    · exact .inl ⟨_, _, rw_int rx, rw_int ry, l.now h m (.bl _)⟩
    · exact h.elim
  · split at h
    · exact .inr ⟨_, _, rw_str rx, rw_str ry, l.now h m (.bl _)⟩
    · exact h.elim
  · exact h.elim
theorem opU_le : OpR X (compareOp .LtE) (rW X.K wLe) := opR_imp (op_le.or op_le_str) fun x y H Q h => by
  obtain ⟨wx, wy, μ, P, rx, ry, m, h, l⟩ := h
  unfold wLe at h
  split at h
  · split at h
    · exact .inl ⟨_, _, rw_int rx, rw_int ry, l.now h m (.bl _)⟩
    · exact h.elim
  · split at h
    · exact .inr ⟨_, _, rw_str rx, rw_str ry, l.now h m (.bl _)⟩
    · exact h.elim
  · exact h.elim
theorem opU_gt : OpR X (compareOp .Gt) (rW X.K wGt) := opR_imp (op_gt.or op_gt_str) fun x y H Q h => by
  obtain ⟨wx, wy, μ, P, rx, ry, m, h, l⟩ := h
  unfold wGt at h
  split at h
  · split at h
    · exact .inl ⟨_, _, rw_int rx, rw_int ry, l.now h m (.bl _)⟩
    · exact h.elim
  · split at h
    · exact .inr ⟨_, _, rw_str rx, rw_str ry, l.now h m (.bl _)⟩
    · exact h.elim
  · exact h.elim
theorem opU_ge : OpR X (compareOp .GtE) (rW X.K wGe) := opR_imp (op_ge.or op_ge_str) fun x y H Q h => by
  obtain ⟨wx, wy, μ, P, rx, ry, m, h, l⟩ := h
  unfold wGe at h
  split at h
  · split at h
    · exact .inl ⟨_, _, rw_int rx, rw_int ry, l.now h m (.bl _)⟩
    · exact h.elim
  · split at h
    · exact .inr ⟨_, _, rw_str rx, rw_str ry, l.now h m (.bl _)⟩
    · exact h.elim
  · exact h.elim
theorem drf_dq {K : Frag} {H : Hp} {μ : Mu} {n : Nat} {v : V} {w : W} (r : Rw K H μ v w) (m : Mem K H μ) (d : isD n (drf μ w) = true) : Dq K H v (drf μ w) := by
  cases w with
  | ref p =>
    cases r
    cases e : μ p with
    | none => simp only [drf, e] at d; cases n <;> cases d
    | some o =>
      cases o with
      | ls ws =>
        simp only [drf, e] at d ⊢
        obtain ⟨vs, h1, h2⟩ := m _ _ e
        cases n with
        | zero => cases d
        | succ n => exact .lst (.inl (.inl h1)) (dqs_of h2 d)
      | _ => simp only [drf, e] at d; cases n <;> cases d
  | rol ws =>
    cases r with
    | rol h hs => cases n with
      | zero => cases d
      | succ n => exact .lst (.inl h.1) (dqs_of hs d)
  | _ => exact dq_of r d
theorem decV_int (i j : Int) : decide (V.int i = V.int j) = decide (i = j) := by simp only [V.int.injEq]
theorem decV_str (i j : Str) : decide (V.str i = V.str j) = decide (i = j) := by simp only [V.str.injEq]
theorem decV_bl (i j : Bool) : decide (V.bl i = V.bl j) = decide (i = j) := by simp only [V.bl.injEq]
theorem eq_gen {neg : Bool} {x y : W} {μ : Mu} {P : Po} {H : Hp} {v u : V} {Q : VK} (h : wEqG neg x y μ P) (rx : Rw X.K H μ v x) (ry : Rw X.K H μ u y) (m : Mem X.K H μ) (l : VL X.K Q μ H P) : rEqQ X.K neg v u H Q :=
  ⟨_, _, drf_dq rx m h.1, drf_dq ry m h.2.1, h.1, h.2.1, l.now h.2.2 m (.bl _)⟩
theorem opU_eq (hu : X.A.units + 64 < cLine) : OpR X (compareOp .Eq) (rW X.K wEq) := opR_imp (op_eq.or (op_eqQ hu)) fun x y H Q h => by
  obtain ⟨wx, wy, μ, P, rx, ry, m, h, l⟩ := h
  unfold wEq at h
  split at h
  · split at h
    · cases rx
      cases ry
      exact .inl ⟨rfl, by rw [decV_int]; exact l.now h m (.bl _)⟩
    · exact .inr (eq_gen h rx ry m l)
  · split at h
    · cases rx
      cases ry
      exact .inl ⟨rfl, by rw [decV_str]; exact l.now h m (.bl _)⟩
    · exact .inr (eq_gen h rx ry m l)
  · split at h
    · cases rx
      cases ry
      exact .inl ⟨rfl, by rw [decV_bl]; exact l.now h m (.bl _)⟩
    · exact .inr (eq_gen h rx ry m l)
  · exact .inr (eq_gen h rx ry m l)
theorem opU_ne (hu : X.A.units + 64 < cLine) : OpR X (compareOp .NotEq) (rW X.K wNe) := opR_imp (op_ne.or (op_neQ hu)) fun x y H Q h => by
  obtain ⟨wx, wy, μ, P, rx, ry, m, h, l⟩ := h
  unfold wNe at h
  split at h
  · split at h
    · cases rx
      cases ry
      exact .inl ⟨rfl, by rw [decV_int]; exact l.now h m (.bl _)⟩
    · exact .inr (eq_gen h rx ry m l)
  · split at h
    · cases rx
      cases ry
      exact .inl ⟨rfl, by rw [decV_str]; exact l.now h m (.bl _)⟩
    · exact .inr (eq_gen h rx ry m l)
  · split at h
    · cases rx
      cases ry
      exact .inl ⟨rfl, by rw [decV_bl]; exact l.now h m (.bl _)⟩
    · exact .inr (eq_gen h rx ry m l)
  · exact .inr (eq_gen h rx ry m l)
theorem isN_rw {K : Frag} {H : Hp} {μ : Mu} {v : V} {w : W} (h : Rw K H μ v w) : decide (v = .non) = isN w := by cases h <;> rfl
theorem opU_is : OpR X (compareOp .Is) (rW X.K wIs) := opR_imp (op_isN.or op_isBl) fun x y H Q h => by
  obtain ⟨wx, wy, μ, P, rx, ry, m, h, l⟩ := h
  unfold wIs at h
  split at h
  · cases ry
    exact .inl ⟨rfl, by rw [isN_rw rx]; exact l.now h m (.bl _)⟩
  · split at h
    · cases rx
      cases ry
      exact .inr ⟨_, _, rfl, rfl, l.now h m (.bl _)⟩
    · exact h.elim
  · exact h.elim
theorem opU_isnt : OpR X (compareOp .IsNot) (rW X.K wIsnt) := opR_imp (op_notN.or op_notBl) fun x y H Q h => by
  obtain ⟨wx, wy, μ, P, rx, ry, m, h, l⟩ := h
  unfold wIsnt at h
  split at h
  · cases ry
    exact .inl ⟨rfl, by rw [isN_rw rx]; exact l.now h m (.bl _)⟩
  · split at h
    · cases rx
      cases ry
      exact .inr ⟨_, _, rfl, rfl, l.now h m (.bl _)⟩
    · exact h.elim
  · exact h.elim
end
/-! dicts by their keys -/
def valW {κ : Type} [DecidableEq κ] (kvs : List (κ × W)) (k : κ) : Option W := (kvs.find? fun kv => decide (kv.1 = k)).map (·.2)
def putW {κ : Type} [DecidableEq κ] (kvs : List (κ × W)) (k : κ) (v : W) : List (κ × W) :=
  if (kvs.any fun kv => decide (kv.1 = k)) = true then kvs.map (fun kv => if kv.1 = k then (kv.1, v) else kv) else kvs ++ [(k, v)]
theorem rwp_any {K : Frag} {H : Hp} {μ : Mu} {κ : Type} [DecidableEq κ] {k : κ} : ∀ {kv : List (κ × V)} {kw : List (κ × W)}, RwP K H μ kv kw → (kv.any fun p => decide (p.1 = k)) = (kw.any fun p => decide (p.1 = k))
  | _, _, .nil => rfl
  | _, _, .cons h hs => by
    rw [List.any_cons, List.any_cons, rwp_any hs]
theorem rwp_val {K : Frag} {H : Hp} {μ : Mu} {κ : Type} [DecidableEq κ] {k : κ} : ∀ {kv : List (κ × V)} {kw : List (κ × W)}, RwP K H μ kv kw → (valW kw k = none → valV kv k = none) ∧ ∀ w, valW kw k = some w → ∃ v, valV kv k = some v ∧ Rw K H μ v w
  | _, _, .nil => ⟨fun _ => rfl, fun w e => by cases e⟩
  | _, _, @RwP.cons _ _ _ _ q v vs w ws h hs => by
    unfold valW valV
    rw [List.find?_cons, List.find?_cons]
    have ih := rwp_val (k := k) hs
    unfold valW valV at ih
    cases hd : decide (q = k) with
    | true =>
      refine ⟨fun e => (by cases e), fun w' e => ?_⟩
      cases e
      exact ⟨_, rfl, h⟩
    | false => exact ih
theorem rwp_map {K : Frag} {H : Hp} {μ : Mu} {κ : Type} [DecidableEq κ] {k : κ} {x : V} {y : W} (hv : Rw K H μ x y) : ∀ {kv : List (κ × V)} {kw : List (κ × W)}, RwP K H μ kv kw → RwP K H μ (kv.map fun p => if p.1 = k then (p.1, x) else p) (kw.map fun p => if p.1 = k then (p.1, y) else p)
  | _, _, .nil => .nil
  | _, _, @RwP.cons _ _ _ _ q v vs w ws h hs => by
    rw [List.map_cons, List.map_cons]
    by_cases c : q = k
    · rw [if_pos c, if_pos c]
      exact .cons hv (rwp_map hv hs)
    · rw [if_neg c, if_neg c]
      exact .cons h (rwp_map hv hs)
theorem rwp_app {K : Frag} {H : Hp} {μ : Mu} {κ : Type} : ∀ {kv ku : List (κ × V)} {kw kz : List (κ × W)}, RwP K H μ kv kw → RwP K H μ ku kz → RwP K H μ (kv ++ ku) (kw ++ kz)
  | _, _, _, _, .nil, g => g
  | _, _, _, _, .cons h hs, g => .cons h (rwp_app hs g)
theorem rwp_put {K : Frag} {H : Hp} {μ : Mu} {κ : Type} [DecidableEq κ] {k : κ} {x : V} {y : W} (hv : Rw K H μ x y) {kv : List (κ × V)} {kw : List (κ × W)} (h : RwP K H μ kv kw) : RwP K H μ (putK kv k x) (putW kw k y) := by
  unfold putK putW
  rw [rwp_any h]
  split
  · exact rwp_map hv h
  · exact rwp_app h (.cons hv .nil)
/-- a value as a key -/
@[reducible] def kO (w : W) : Option Key := match w with
  | .int i => some (.inl i)
  | .str x => some (.inr x)
  | _ => none
theorem kO_rw {K : Frag} {H : Hp} {μ : Mu} {v : V} {w : W} {k : Key} (h : Rw K H μ v w) (e : kO w = some k) : v = kV k := by
  cases w <;> cases e <;> (cases h; rfl)
/-- what a dict holds -/
@[reducible] def rdD (μ : Mu) (w : W) : Option (List (Key × W)) := match w with
  | .ref a => (match μ a with
    | some (.dk kvs) => some kvs
    | some (.rk kvs) => some kvs
    | _ => none)
  | _ => none
theorem rdD_at {K : Frag} {H : Hp} {μ : Mu} {v : V} {w : W} {kvs : List (Key × W)} (h : rdD μ w = some kvs) (r : Rw K H μ v w) (m : Mem K H μ) : ∃ a kv, v = .ref a ∧ Rd H a (.dK kv) ∧ RwP K H μ kv kvs := by
  cases w with
  | ref a =>
    cases r
    cases e : μ a with
    | none => simp only [rdD, e] at h; cases h
    | some o =>
      cases o with
      | dk kvs' =>
        simp only [rdD, e] at h
        cases h
        obtain ⟨kv, h1, h2⟩ := m _ _ e
        exact ⟨a, kv, rfl, .inl h1, h2⟩
      | rk kvs' =>
        simp only [rdD, e] at h
        cases h
        obtain ⟨o, kv, h1, h2⟩ := m _ _ e
        exact ⟨a, kv, rfl, .inr ⟨o, h1⟩, h2⟩
      | _ => simp only [rdD, e] at h; cases h
  | _ => cases h
end Q
namespace Q
open PySem L2 Evl
/-! in, subscripts, slices, attributes -/
section
variable {X : Cx}
theorem dget_of {K : Frag} {H : Hp} {μ : Mu} {a : Addr} {kv : List (Key × V)} {k : Key} (h : Rd H a (.dK kv)) : DGet H a (kV k) (valV kv k) := .inl ⟨kv, k, h, rfl, rfl⟩
end
/-! a[b] -/
/-- the item at i, counted from the end where i is negative; sealed: nothing opens it but pick_def -/
noncomputable def pickS (α : Type) : { f : List α → Int → Option α // f = atI } := Classical.choice ⟨⟨_, rfl⟩⟩
noncomputable def pick {α : Type} (xs : List α) (i : Int) : Option α := (pickS α).1 xs i
theorem pick_def {α : Type} (xs : List α) (i : Int) : pick xs i = atI xs i := by
  unfold pick
  rw [(pickS α).2]
theorem pick_nat {α : Type} {xs : List α} {i : Int} {x : α} (h0 : 0 ≤ i) (h : xs[i.toNat]? = some x) : pick xs i = some x := by
  have := atI_nat h
  rw [show ((i.toNat : Nat) : Int) = i by omega] at this
  rw [pick_def]
  exact this
theorem pick_last {α : Type} (xs : List α) (x : α) : pick (xs ++ [x]) (-1) = some x := (pick_def _ _).trans (atI_last xs x)
@[reducible] def wIx : F2 := fun x y μ P => match x with
  | .tup ws => (match y with
    | .int i => (match pick ws i with
      | some w => P w μ
      | none => False)
    | _ => False)
  | .str z => (match y with
    | .int i => z.length ≤ 16000000 ∧ (match pick z.cps.toList i with
      | some c => P (.str ⟨#[c]⟩) μ
      | none => False)
    | _ => False)
  | x => (match rdL μ x with
    | some ws => (match y with
      | .int i => (match pick ws i with
        | some w => P w μ
        | none => False)
      | _ => False)
    | none => (match rdD μ x with
      | some kvs => (match kO y with
        | some k => (match valW kvs k with
          | some w => P w μ
          | none => False)
        | none => False)
      | none => False))
def rDix : R2 := fun x y H Q => ∃ a v, x = .ref a ∧ DGet H a y (some v) ∧ Q v H
section
variable {X : Cx} {E : L2.St → XK}
theorem ix_dict (hu : X.A.units + 64 < cLine) : IxR X rDix := by
  intro value slice pins s σ H x y v u Q I rx ry h hs
  obtain ⟨a, z, rfl, g, q⟩ := h
  cases rx
  exact PyProof.Rows.tail_any (dict_typeIs I g) PySem.F.slot_dict_getitem.lookup (d_getItem (by omega) I g ry fun w' s' I' r' => ⟨z, H, I', r', q⟩) hs
theorem ixU (hu : X.A.units + 64 < cLine) : IxR X (rW X.K wIx) := by
  intro value slice pins s σ H x y v u Q I rx ry h hs
  refine (ix_seq.or (ix_dict hu)) value slice pins s σ H x y v u Q I rx ry ?_ hs
  obtain ⟨wx, wy, μ, P, rx, ry, m, h, l⟩ := h
  unfold wIx at h
  split at h
  · split at h
    · split at h
      · rename_i w e
        cases rx with
        | tup q hs =>
          rw [pick_def] at e
          unfold atI at e
          obtain ⟨j, e1, e2⟩ := Option.bind_eq_some_iff.mp e
          obtain ⟨v, e3, e4⟩ := RwAll.at j hs e2
          exact .inl (.inr (.inl ⟨_, _, _, v, rfl, rw_int ry, tup_sq q, by unfold atI; rw [hs.len, e1]; exact e3, l.now h m e4⟩))
      · exact h.elim
    · exact h.elim
  · split at h
    · obtain ⟨hz, h⟩ := h
      split at h
      · rename_i c e
        exact .inl (.inr (.inr ⟨_, _, c, rw_str rx, rw_int ry, big hz, (pick_def _ _).symm.trans e, l.now h m (.str _)⟩))
      · exact h.elim
    · exact h.elim
  · split at h
    · rename_i ws ex
      obtain ⟨a, vs, rfl, hq, hs⟩ := rdL_at ex rx m
      split at h
      · split at h
        · rename_i w e
          rw [pick_def] at e
          unfold atI at e
          obtain ⟨j, e1, e2⟩ := Option.bind_eq_some_iff.mp e
          obtain ⟨v, e3, e4⟩ := RwAll.at j hs e2
          exact .inl (.inl ⟨_, _, _, v, rfl, rw_int ry, hq, by unfold atI; rw [hs.len, e1]; exact e3, l.now h m e4⟩)
        · exact h.elim
      · exact h.elim
    · split at h
      · rename_i kvs ex
        obtain ⟨a, kv, rfl, hd, r⟩ := rdD_at ex rx m
        split at h
        · rename_i k ek
          have e2 := kO_rw ry ek
          subst e2
          split at h
          · rename_i w e
            obtain ⟨u, f1, f2⟩ := (rwp_val r).2 w e
            refine .inr ⟨a, u, rfl, ?_, l.now h m f2⟩
            rw [← f1]
            exact dget_of (K := X.K) (μ := μ) hd
          · exact h.elim
        · exact h.elim
      · exact h.elim
theorem qe_ix {a b : Expr} {fa fb : FE} {pos : Pos} (hu : X.A.units + 64 < cLine) (ha : QE X E a fa) (hb : QE X E b fb) (hs : PlainIx b) : QE X E (.Subscript a b pos) (eOp wIx fa fb) := ⟨(pe_ix (ixU hu) ha.pe hb.pe hs).qimp fun σ H Q h => tE_two (fun _ _ _ _ h => h) h⟩
/-! slices -/
theorem PO.qimp {X : Cx} {e : Option Expr} {t t' : TO} (h : PO X e t) (k : ∀ σ H Q, t' σ H Q → t σ H Q) : PO X e t' := by
  obtain ⟨h⟩ := h
  exact ⟨fun pins s σ H Q I q => h pins s σ H Q I (k σ H Q q)⟩
def cutL {α : Type} (xs : List α) (lo hi : Option Int) : List α := (xs.drop (HT.sIx xs.length 0 lo)).take (HT.sIx xs.length xs.length hi - HT.sIx xs.length 0 lo)
/-! attributes -/
def lk {β : Type} (f : Str) : List (Str × β) → Option β
  | [] => none
  | (g, x) :: r => if f = g then some x else lk f r
theorem lk_lookup {β : Type} (f : Str) : ∀ fs : List (Str × β), fs.lookup f = lk f fs
  | [] => rfl
  | (g, x) :: r => by
    rw [List.lookup_cons]
    unfold lk
    by_cases h : f = g
    · rw [if_pos h, beq_iff_eq.mpr h]
    · rw [if_neg h, beq_eq_false_iff_ne.mpr h]
      exact lk_lookup f r
theorem rwp_lk {K : Frag} {H : Hp} {μ : Mu} {f : Str} : ∀ {fv : List (Str × V)} {fs : List (Str × W)}, RwP K H μ fv fs → (lk f fs = none → fv.lookup f = none) ∧ ∀ w, lk f fs = some w → ∃ v, fv.lookup f = some v ∧ Rw K H μ v w
  | _, _, .nil => ⟨fun _ => rfl, fun w e => by cases e⟩
  | _, _, @RwP.cons _ _ _ _ q v vs w ws h hs => by
    rw [lk_lookup]
    unfold lk
    have ih := rwp_lk (f := f) hs
    rw [lk_lookup] at ih
    by_cases c : f = q
    · rw [if_pos c, if_pos c]
      refine ⟨fun e => ?_, fun w' e => ?_⟩
      · cases e
      · cases e
        exact ⟨_, rfl, h⟩
    · rw [if_neg c, if_neg c]
      exact ih
def pf (f : Str) (w : W) : List (Str × W) → List (Str × W)
  | [] => [(f, w)]
  | (g, x) :: r => if g = f then (g, w) :: r else (g, x) :: pf f w r
theorem rwp_pf {K : Frag} {H : Hp} {μ : Mu} {f : Str} {v : V} {w : W} (hv : Rw K H μ v w) : ∀ {fv : List (Str × V)} {fs : List (Str × W)}, RwP K H μ fv fs → RwP K H μ (putF f v fv) (pf f w fs)
  | _, _, .nil => .cons hv .nil
  | _, _, @RwP.cons _ _ _ _ q u vs x ws h hs => by
    unfold putF pf
    by_cases c : q = f
    · rw [if_pos c, if_pos c]
      exact .cons hv hs
    · rw [if_neg c, if_neg c]
      exact .cons h (rwp_pf hv hs)
/-- o.f of one of the classes cs -/
@[reducible] def wFld (cs : List Str) (f : Str) : F1 := fun x μ P => match x with
  | .ref a => (match μ a with
    | some (.ins c fs) => c ∈ cs ∧ (match lk f fs with
      | some w => P w μ
      | none => False)
    | _ => False)
  | _ => False
@[reducible] def eFld (cs : List Str) (o : FE) (f : Str) : FE := eUn (wFld cs f) o
theorem ins_at {K : Frag} {H : Hp} {μ : Mu} {a : Addr} {c : Str} {fs : List (Str × W)} (m : Mem K H μ) (h : μ a = some (.ins c fs)) : ∃ dx fv, H a = some (.ins (He.ga K c) dx fv) ∧ RwP K H μ fv fs := m a _ h
theorem qe_fld {o : Expr} {f : Str} {fo : FE} {cs : List Str} {pos : Pos} (hc : ∀ c ∈ cs, Cls X.K (He.ga X.K c) ∧ NoAttr X.K (He.ga X.K c) f) (he : QE X E o fo) (hb : attributeBase o f X.env (eval o X.env) = eval o X.env) : QE X E (.Attribute o f pos) (eFld cs fo f) := ⟨(pe_fld he.pe hb).qimp fun σ H Q h => by
  obtain ⟨ρ, μ, P, XX, hh, hm, hf, hv, hx⟩ := h
  refine ⟨ρ, μ, _, XX, hh, hm, hf, fun x μ1 v H1 p1 e1 m1 r1 => ?_, hx⟩
  dsimp only [wFld] at p1
  split at p1
  · split at p1
    · rename_i a _ c fs e
      obtain ⟨hcs, p1⟩ := p1
      cases r1
      obtain ⟨dx, fv, ha, r⟩ := ins_at m1 e
      split at p1
      · rename_i w ew
        obtain ⟨v, e2, r2⟩ := (rwp_lk r).2 w ew
        exact ⟨a, _, dx, fv, v, rfl, ha, (hc c hcs).1, (hc c hcs).2, e2, hv w μ1 v H1 p1 e1 m1 r2⟩
      · exact p1.elim
    · exact p1.elim
  · exact p1.elim⟩
@[reducible] def sFld (cs : List Str) (o : FE) (f : Str) (e : FE) : FS := fun ρ μ N => e ρ μ (fun w μ1 => o ρ μ1 (fun x μ2 => match x with
  | .ref a => (match μ2 a with
    | some (.ins c fs) => c ∈ cs ∧ fs.length ≤ 900 ∧ N.nx ρ (mset μ2 a (.ins c (pf f w fs)))
    | _ => False)
  | _ => False) (N.ex ρ)) (N.ex ρ)
theorem qs_fld {o e : Expr} {f : Str} {fo fe : FE} {cs : List Str} {pos pos' : Pos} (hc : ∀ c ∈ cs, Cls X.K (He.ga X.K c) ∧ NoAttr X.K (He.ga X.K c) f) (ho : QE X E o fo) (he : QE X E e fe) (hs : swapsWith e (some (.Attribute o f pos')) pos.line X.env = pure false := by rfl) : QS X E (.Assign [.Attribute o f pos'] e pos) (sFld cs fo f fe) := ⟨(ps_fld ho.pe he.pe hs).qimp fun D σ H h => by
  obtain ⟨ρ, μ, N, hh, hm, hf, l⟩ := h
  refine ⟨ρ, μ, _, _, hh, hm, hf, fun w μ1 v H1 p1 e1 m1 r1 => ⟨ρ, μ1, _, _, hh.stp e1, m1, p1, fun x μ2 u H2 p2 e2 m2 r2 => ?_, (l.stp e1).xl (hh.stp e1)⟩, l.xl hh⟩
  dsimp only at p2
  split at p2
  · split at p2
    · rename_i a _ c fs e
      obtain ⟨hcs, hl, p2⟩ := p2
      cases r2
      obtain ⟨dx, fv, ha, r⟩ := ins_at m2 e
      have ll := r.len
      have st : Stp μ2 H2 (mset μ2 a (.ins c (pf f w fs))) (upd H2 a (.ins (He.ga X.K c) dx (putF f v fv))) := Stp.put e (nf_ins ha)
      exact ⟨a, _, dx, fv, rfl, ha, (hc c hcs).1, (hc c hcs).2, by omega, l.nx ρ _ σ _ p2 ((e1.trans e2).trans st) (m2.put st ⟨dx, _, upd_same, (rwp_pf (r1.stp e2) r).stp st⟩) (hh.stp ((e1.trans e2).trans st))⟩
    · exact p2.elim
  · exact p2.elim⟩
end
end Q
namespace Q
open PySem L2 Evl
/-! defs: what a def does, as a function; calls -/
abbrev FW := List W → Mu → Po → Xo → Prop
/-- what a def hands back: it may forget, and lists that nobody else has become values -/
def Rt (P : Po) (w : W) (μ : Mu) : Prop := ∃ w' μ', Sub μ' μ ∧ Fz μ μ' w w' ∧ P w' μ'
theorem Rt.now {P : Po} {w : W} {μ : Mu} (h : P w μ) : Rt P w μ := ⟨w, μ, Sub.refl μ, .same w, h⟩
@[reducible] def rho0 : Nat → List W → Rho
  | 0, _ => []
  | n + 1, [] => none :: rho0 n []
  | n + 1, w :: ws => some w :: rho0 n ws
theorem rho0_nil : ∀ n, rho0 n [] = List.replicate n none
  | 0 => rfl
  | n + 1 => by
    show none :: rho0 n [] = _
    rw [rho0_nil n]
    rfl
theorem rho0_is : ∀ (n : Nat) (ws : List W), ws.length ≤ n → rho0 n ws = ws.map some ++ List.replicate (n - ws.length) none
  | n, [], _ => by
    rw [rho0_nil]
    rfl
  | 0, w :: ws, h => absurd h (Nat.not_succ_le_zero _)
  | n + 1, w :: ws, h => by
    show some w :: rho0 n ws = _
    rw [rho0_is n ws (Nat.le_of_succ_le_succ h), List.length_cons, Nat.add_sub_add_right]
    rfl
def fDef (np n : Nat) (fb : FS) : FW := fun ws μ P X => ws.length = np ∧ fb (rho0 n ws) μ ⟨fun _ μ' => Rt P .non μ', fun w μ' => Rt P w μ', fun _ _ => False, fun _ _ => False, fun _ c fs μ' => ∃ μ'', Sub μ'' μ' ∧ X c fs μ''⟩
def spF (K : Frag) (f : FW) : Sp := fun vs H Q E => ∃ ws μ P X, RwAll K H μ vs ws ∧ Mem K H μ ∧ f ws μ P X ∧ VL K Q μ H P ∧ XL K E μ H X
theorem Pay.sub {K : Frag} {H : Hp} {μ μ' : Mu} {d : Option Addr} {fs : List (Str × W)} (s : Sub μ' μ) (h : Pay K H μ d fs) : Pay K H μ' d fs := by
  cases h with
  | none => exact .none
  | some h n r => exact .some h (s.none n) (r.stp (s.stp H))
theorem el_def {K : Frag} {E : XK} {Q : VK} {μ : Mu} {H : Hp} {P : Po} {X : Xo} (v : VL K Q μ H P) (x : XL K E μ H X) :
    EL K (fun _ => E) ⟨fun σ H => Q .non H, Q, fun _ _ => False, fun _ _ => False⟩ μ H ⟨fun _ μ' => Rt P .non μ', fun w μ' => Rt P w μ', fun _ _ => False, fun _ _ => False, fun _ c fs μ' => ∃ μ'', Sub μ'' μ' ∧ X c fs μ''⟩ := by
  have ret : VL K Q μ H (fun w μ' => Rt P w μ') := fun w μ' u H' ⟨w', μ'', s, z, p⟩ e m r => v w' μ'' u H' p (e.trans (s.stp H')) (s.mem m) (z.rw s m r)
  exact ⟨fun ρ' μ' σ' H' n e m _ => ret .non μ' .non H' n e m .non, ret, fun _ _ _ _ n => n.elim, fun _ _ _ _ n => n.elim, fun ρ' c fs μ' d σ' H' ⟨μ'', s, n⟩ e m _ p => x c fs μ'' d H' n (e.trans (s.stp H')) (s.mem m) (p.sub s)⟩
section
variable {P : Program} {w : World} {K : Frag} {mg : Str → Option Value} {base : Heap}
abbrev FnM (K : Frag) (x qual : Str) (st : Stmt) (f : Addr) (fd : FuncData) : Prop := L2.FunD K x qual (defArgs st) (defBody st) (defScope st) [] [] f fd
theorem fn_q {x qual : Str} {st : Stmt} {f : Addr} {fd : FuncData} {N ps : List Str} {k : Nat} {fb : FS} (F : FnM K x qual st f fd) (S : FnScope N ps (defScope st)) (hl : ps.length ≤ N.length)
    (body : ∀ (cdv : Value) (A : Around) (outer : List PySem.Env) (s : Shared) (H : Hp) (E : XK), Room k (A.deeper (PyProof.Rows.envOfC qual (defScope st) s.heap.objs.size f cdv)) →
      QSs (cxOf (L2N.CX P w) P w K mg base N qual (defScope st) f cdv A outer s H E) (fun _ => E) (defBody st) fb) : FnOk P w K mg base (L2N.CX P w) (k + 1) f fd ps (spF K (fDef ps.length N.length fb)) := by
  refine L2.FunD.ok F S (fun vs H Q E h => ?_) (fun cdv A outer s H vs Q E hr h => ?_)
  · obtain ⟨ws, μ, Pq, X, h1, _, h2, _⟩ := h
    rw [h1.len]
    exact h2.1
  · obtain ⟨ws, μ, Pq, X, h1, hm, h2, v, x⟩ := h
    have h0 := Holds.start (N := N) h1
    rw [← rho0_is _ _ (by rw [h2.1]; exact hl)] at h0
    exact ⟨_, (body cdv A outer s H E hr).pss, _, μ, _, h0, hm, h2.2, el_def v x⟩
/-- a def, a method, a class with its __init__, by what they do -/
structure DefQ (P : Program) (w : World) (K : Frag) (mg : Str → Option Value) (base : Heap) (k : Nat) (x : Str) (ps : List Str) (f : FW) : Prop where
  ex : ∃ (a : Addr) (fd : FuncData), FnOk P w K mg base (L2N.CX P w) k a fd ps (spF K f) ∧ mg x = some (.ref a) ∧ PySem.W.keepIn K (.ref a) = true ∧ Binds K fd ps []
structure MetQ (P : Program) (w : World) (K : Frag) (mg : Str → Option Value) (base : Heap) (k : Nat) (x m : Str) (ps : List Str) (f : FW) : Prop where
  cls : Cls K (He.ga K x)
  ex : ∃ (a : Addr) (fd : FuncData), FnOk P w K mg base (L2N.CX P w) k a fd ps (spF K f) ∧ Meth K (He.ga K x) m a ∧ Binds K fd ps []
structure MakQ (P : Program) (w : World) (K : Frag) (mg : Str → Option Value) (base : Heap) (k : Nat) (x : Str) (ps : List Str) (f : FW) : Prop where
  g : mg x = some (.ref (He.ga K x))
  ex : ∃ (a : Addr) (fd : FuncData), FnOk P w K mg base (L2N.CX P w) k a fd ps (spF K f) ∧ Mk K (He.ga K x) a ∧ Binds K fd ps []
end
/-- what a body's exceptions may do -/
def Px (X : Cx) (E : L2.St → XK) : Prop := ∀ σ, PassesAt (L2N.CX X.prog X.w) X σ (E σ)
def EN : L2.St → XK := fun _ _ _ _ => False
theorem px_no {X : Cx} : Px X EN := fun _ _ _ _ _ _ _ h => by
  obtain ⟨_, _, _, _, _, _, _, _, _, _, _, _, z⟩ := h
  exact z.elim
@[reducible] def eCall (f : FW) (a : FA) : FE := fun ρ μ P X => a ρ μ (fun ws μ1 => f ws μ1 P X) X
section
variable {X : Cx} {E : L2.St → XK} {k : Nat} {x m : Str} {ps : List Str} {f : FW} {e o : Expr} {es : List Expr} {fo : FE} {fa : FA} {p pos apos : Pos}
theorem sp_now {K : Frag} {H : Hp} {μ : Mu} {vs : List V} {ws : List W} {P : Po} {Xx : Xo} {Q : VK} {Ek : XK} (r : RwAll K H μ vs ws) (m : Mem K H μ) (h : f ws μ P Xx) (v : VL K Q μ H P) (x : XL K Ek μ H Xx) : spF K f (vs ++ []) H Q Ek := by
  rw [List.append_nil]
  exact ⟨ws, μ, P, Xx, r, m, h, v, x⟩
theorem VL.stp {K : Frag} {Q : VK} {μ μ1 : Mu} {H H1 : Hp} {P : Po} (e : Stp μ H μ1 H1) (h : VL K Q μ H P) : VL K Q μ1 H1 P := fun w μ' v H' p e2 => h w μ' v H' p (e.trans e2)
theorem qe_call (px : Px X E) (D : DefQ X.prog X.w X.K X.mg X.base k x ps f) (hr : Room k X.A) (hg : Gl X x) (ha : QA X E (e :: es) fa) (hdb : (x == ("__debug__" : Str)) = false := by decide)
    (he : starEach (e :: es) X.env = (false, eval e X.env) :: starEach es X.env := by rfl) (hpl : (backTo pos (starEach es X.env)).any (·.1) = false := by rfl) : QE X E (.Call (.Name x p) (e :: es) [] pos) (eCall f fa) := by
  obtain ⟨a, fd, h, g, kp, b⟩ := D.ex
  refine ⟨(pe_callSD h hr hg g kp b .nil px ha.pa hdb he hpl).qimp fun σ H Q h => ?_⟩
  obtain ⟨ρ, μ, P, XX, hh, hm, hf, hv, hx⟩ := h
  exact ⟨ρ, μ, _, XX, hh, hm, hf, fun ws μ1 vs H1 p1 e1 m1 r1 => sp_now r1 m1 p1 (hv.stp e1) (hx.stp e1), hx⟩
/-- a method: of the class that the object is of -/
@[reducible] def eMet (m : Str) (ds : List (Str × FW)) (o : FE) (a : FA) : FE := fun ρ μ P X => o ρ μ (fun w μ1 => match w with
  | .ref r => (match μ1 r with
    | some (.ins c fs) => lk m fs = none ∧ (match lk c ds with
      | some f => a ρ μ1 (fun ws μ2 => f (.ref r :: ws) μ2 P X) X
      | none => False)
    | _ => False)
  | _ => False) X
/-- all of them are there -/
def MetsQ (X : Cx) (k : Nat) (m : Str) (ds : List (Str × FW)) : Prop := ∀ c f, lk c ds = some f → ∃ ps, MetQ X.prog X.w X.K X.mg X.base k c m ps f
theorem MetQ.mono {P : Program} {w : World} {K : Frag} {mg : Str → Option Value} {base : Heap} {j k : Nat} {x m : Str} {ps : List Str} {f : FW} (h : MetQ P w K mg base j x m ps f) (l : j ≤ k) : MetQ P w K mg base k x m ps f := by
  obtain ⟨a, fd, F, r⟩ := h.ex
  exact ⟨h.cls, a, fd, F.mono l, r⟩
theorem mets1 {c : Str} {f : FW} (h : MetQ X.prog X.w X.K X.mg X.base k c m ps f) : MetsQ X k m [(c, f)] := fun c' f' e => by
  unfold lk at e
  split at e
  · rename_i q
    cases e
    exact ⟨ps, q ▸ h⟩
  · cases e
theorem met_at {K : Frag} {H : Hp} {μ : Mu} {r : Addr} {c : Str} {fs : List (Str × W)} (m' : Mem K H μ) (e : μ r = some (.ins c fs)) (n : lk m fs = none) : ∃ dx fv, H r = some (.ins (He.ga K c) dx fv) ∧ fv.lookup m = none := by
  obtain ⟨dx, fv, h, rr⟩ := ins_at m' e
  exact ⟨dx, fv, h, (rwp_lk rr).1 n⟩
theorem QE.go {pins : List (Addr × Obj)} {s : Shared} {σ : St} {H : Hp} {ρ : Rho} {μ : Mu} {P : Po} {XX : Xo} (h : QE X E o fo) (I : Inv X pins σ H s) (hh : Holds X.K H μ σ ρ) (hm : Mem X.K H μ) (hf : fo ρ μ P XX) (hx : XL X.K (E σ) μ H XX) :
    wpAny (model X.prog X.w) X.A (eval o X.env) (fun u s1 => ∃ v H1 w μ1, Inv X pins σ H1 s1 ∧ RelV v u ∧ P w μ1 ∧ Stp μ H μ1 H1 ∧ Mem X.K H1 μ1 ∧ Rw X.K H1 μ1 v w) X.xe s :=
  thn (h.pe.run pins s σ H (fun v H1 => ∃ w μ1, P w μ1 ∧ Stp μ H μ1 H1 ∧ Mem X.K H1 μ1 ∧ Rw X.K H1 μ1 v w) I ⟨ρ, μ, P, XX, hh, hm, hf, fun w μ1 v H1 p1 e1 m1 r1 => ⟨w, μ1, p1, e1, m1, r1⟩, hx⟩) fun u s1 ⟨v, H1, I1, rx, w, μ1, p1, e1, m1, r1⟩ => ⟨v, H1, w, μ1, I1, rx, p1, e1, m1, r1⟩
theorem QA.go {pins : List (Addr × Obj)} {s : Shared} {σ : St} {H : Hp} {ρ : Rho} {μ : Mu} {P : List W → Mu → Prop} {XX : Xo} (h : QA X E es fa) (pos : Pos) (I : Inv X pins σ H s) (hh : Holds X.K H μ σ ρ) (hm : Mem X.K H μ) (hf : fa ρ μ P XX) (hx : XL X.K (E σ) μ H XX) :
    wpAny (model X.prog X.w) X.A (spliced (backTo pos (starEach es X.env))) (fun us s1 => ∃ vs H1 ws μ1, Inv X pins σ H1 s1 ∧ Vals vs us ∧ P ws μ1 ∧ Stp μ H μ1 H1 ∧ Mem X.K H1 μ1 ∧ RwAll X.K H1 μ1 vs ws) X.xe s :=
  thn (h.pa.run pos pins s σ H (fun vs H1 => ∃ ws μ1, P ws μ1 ∧ Stp μ H μ1 H1 ∧ Mem X.K H1 μ1 ∧ RwAll X.K H1 μ1 vs ws) I ⟨ρ, μ, P, XX, hh, hm, hf, fun w μ1 v H1 p1 e1 m1 r1 => ⟨w, μ1, p1, e1, m1, r1⟩, hx⟩) fun u s1 ⟨v, H1, I1, rx, w, μ1, p1, e1, m1, r1⟩ => ⟨v, H1, w, μ1, I1, rx, p1, e1, m1, r1⟩
theorem qe_met {pl : Sem Bool} {ds : List (Str × FW)} (px : Px X E) (D : MetsQ X k m ds) (hr : Room k X.A) (ho : QE X E o fo) (ha : QA X E (e :: es) fa)
    (hst : starEach (e :: es) X.env = (false, eval e X.env) :: starEach es X.env := by rfl) (hpl : (backTo pos (starEach es X.env)).any (·.1) = false := by rfl)
    (ht : eval (.Call (.Attribute o m apos) (e :: es) [] pos) X.env = (do
      let ov ← eval o X.env
      standAt apos.atName
      let (f, first) ← holding [ov] (getMethod ov m pl)
      callWith pos f first (backTo pos (starEach (e :: es) X.env)) (backToKw pos (keywordEach [] X.env))) := by rfl) : QE X E (.Call (.Attribute o m apos) (e :: es) [] pos) (eMet m ds fo fa) := by
  refine ⟨⟨fun pins s σ H Q I hq => ?_⟩⟩
  obtain ⟨ρ, μ, P, XX, hh, hm, hf, hv, hx⟩ := hq
  refine PySem.W.methodCall_KW (pl := pl) (thn (ho.go I hh hm hf hx) fun u s1 ⟨v, H1, w, μ1, I1, rx, p1, e1, m1, r1⟩ => ?_) ht
  split at p1
  · split at p1
    · rename_i r _ c fs e
      obtain ⟨n, p1⟩ := p1
      split at p1
      · rename_i f ef
        cases r1
        obtain rfl : u = Value.ref r := rx
        obtain ⟨ps, M⟩ := D c f ef
        obtain ⟨a, fd, F, hmt, hb⟩ := M.ex
        obtain ⟨dx, fv, h1, l1⟩ := met_at m1 e n
        refine getmeth_ok I1 h1 M.cls hmt l1 ?_
        refine PySem.W.callWith_K (first := [.ref r]) (h₀ := X.base) I1.ok.mod.kin hmt.kp (thn (ha.go pos I1 (hh.stp e1) m1 p1 (hx.stp e1)) fun us s2 ⟨vs, H2, ws, μ2, I2, r, p2, e2, m2, r2⟩ => ⟨I2.kIn, ?_⟩) hst hpl
        exact run_fnSD (us := .ref _ :: us) (vs := .ref _ :: vs) (E := E) F hr hb .nil (px σ) I2 (.cons rfl r) (sp_now (.cons (.ref _) r2) m2 p2 (hv.stp (e1.trans e2)) (hx.stp (e1.trans e2)))
      · exact p1.elim
    · exact p1.elim
  · exact p1.elim
theorem qe_met0 {pl : Sem Bool} {ds : List (Str × FW)} (px : Px X E) (D : MetsQ X k m ds) (hr : Room k X.A) (ho : QE X E o fo)
    (ht : eval (.Call (.Attribute o m apos) [] [] pos) X.env = (do
      let ov ← eval o X.env
      standAt apos.atName
      let (f, first) ← holding [ov] (getMethod ov m pl)
      callWith pos f first (backTo pos (starEach [] X.env)) (backToKw pos (keywordEach [] X.env))) := by rfl) : QE X E (.Call (.Attribute o m apos) [] [] pos) (eMet m ds fo aNil) := by
  refine ⟨⟨fun pins s σ H Q I hq => ?_⟩⟩
  obtain ⟨ρ, μ, P, XX, hh, hm, hf, hv, hx⟩ := hq
  refine PySem.W.methodCall_KW (pl := pl) (thn (ho.go I hh hm hf hx) fun u s1 ⟨v, H1, w, μ1, I1, rx, p1, e1, m1, r1⟩ => ?_) ht
  split at p1
  · split at p1
    · rename_i r _ c fs e
      obtain ⟨n, p1⟩ := p1
      split at p1
      · rename_i f ef
        cases r1
        obtain rfl : u = Value.ref r := rx
        obtain ⟨ps, M⟩ := D c f ef
        obtain ⟨a, fd, F, hmt, hb⟩ := M.ex
        obtain ⟨dx, fv, h1, l1⟩ := met_at m1 e n
        refine getmeth_ok I1 h1 M.cls hmt l1 ?_
        refine PySem.W.callWith_K0 I1.kIn hmt.kp ?_
        exact run_fnSD (us := [.ref _]) (vs := [.ref _]) (E := E) F hr hb .nil (px σ) I1 (.cons rfl .nil) (sp_now (.cons (.ref _) .nil) m1 p1 (hv.stp e1) (hx.stp e1))
      · exact p1.elim
    · exact p1.elim
  · exact p1.elim
/-- C(..) -/
@[reducible] def eMak (c : Str) (f : FW) (a : FA) : FE := fun ρ μ P X => a ρ μ (fun ws μ1 => ∀ p, μ1 p = none → f (.ref p :: ws) (mset μ1 p (.ins c [])) (fun w μ2 => w = .non ∧ P (.ref p) μ2) X) X
theorem run_mk {pins : List (Addr × Obj)} {σ : St} {H : Hp} {s : Shared} {Q : VK} {us : List Value} {vs : List V} {ws : List W} {μ : Mu} {P : Po} {XX : Xo} (px : Px X E) (D : MakQ X.prog X.w X.K X.mg X.base k x ps f) (hr : Room (k + 1) X.A) (I : Inv X pins σ H s) (r : Vals vs us) (rw' : RwAll X.K H μ vs ws) (hm : Mem X.K H μ)
    (hf : ∀ p, μ p = none → f (.ref p :: ws) (mset μ p (.ins x [])) (fun w μ2 => w = .non ∧ P (.ref p) μ2) XX) (hv : VL X.K Q μ H P) (hx : XL X.K (E σ) μ H XX) : wpAny (model X.prog X.w) X.A (call (.ref (He.ga X.K x)) us) (EP X pins σ Q) X.xe s := by
  obtain ⟨a, fd, F, M, hb⟩ := D.ex
  have n1 : H (s.heap.objs.size + 1) = none := I.hok.fresh (Nat.le_succ _)
  have n0 : H s.heap.objs.size = none := I.hok.fresh (Nat.le_refl _)
  have J := Inv.made (C := He.ga X.K x) I
  have n2 : upd H s.heap.objs.size (.own (s.heap.objs.size + 1)) (s.heap.objs.size + 1) = none := by
    rw [upd_ne (Nat.ne_of_gt (Nat.lt_succ_self _))]
    exact n1
  have st : Stp μ H (mset μ (s.heap.objs.size + 1) (.ins x [])) (upd (upd H s.heap.objs.size (.own (s.heap.objs.size + 1))) (s.heap.objs.size + 1) (.ins (He.ga X.K x) s.heap.objs.size [])) := (Stp.new n0).trans (Stp.newT n2)
  have m2 : Mem X.K (upd (upd H s.heap.objs.size (.own (s.heap.objs.size + 1))) (s.heap.objs.size + 1) (.ins (He.ga X.K x) s.heap.objs.size [])) (mset μ (s.heap.objs.size + 1) (.ins x [])) := (hm.new n0).put (Stp.newT n2) ⟨_, [], upd_same, .nil⟩
  have q := sp_now (f := f) (Q := fun v H2 => v = V.non ∧ Q (.ref (s.heap.objs.size + 1)) H2) (Ek := E σ) (RwAll.cons (.ref (s.heap.objs.size + 1)) (rw'.stp st)) m2 (hf _ (hm.free n1)) (fun w' μ' v H' p e m' r' => by
    obtain ⟨rfl, p⟩ := p
    cases r'
    exact ⟨rfl, hv _ μ' _ H' p (st.trans e) m' (.ref _)⟩) (hx.stp st)
  have rr : Vals (V.ref (s.heap.objs.size + 1) :: vs ++ []) (Value.ref (s.heap.objs.size + 1) :: us ++ []) := (show Vals (V.ref (s.heap.objs.size + 1) :: vs) (Value.ref (s.heap.objs.size + 1) :: us) from .cons rfl r).append .nil
  have hl : (Value.ref (s.heap.objs.size + 1) :: us ++ []).length = ps.length := by
    rw [← rr.length]
    exact F.len _ _ _ _ q
  refine wpAny_call (make_map (f := a) I.kIn M.makes M.init (beq_iff_eq.mp M.fn) (codeAny_mono (F.run _ X.stack _ _ ⟨Value.ref (s.heap.objs.size + 1) :: us, []⟩ _ _ _ (E σ) (hr.make _ us []) (J.env0.make _ us []) (hb _ (Value.ref (s.heap.objs.size + 1) :: us) J.kIn hl) rr q) fun r s' hq' => ?_))
  cases r with
  | error er => exact px σ pins _ _ er s' J hq'
  | ok fl =>
    cases fl with
    | ret u =>
      obtain ⟨v, H', I3, rv, ev, q3⟩ := J.after hq'
      subst ev
      exact ⟨rv, ⟨V.ref _, H', I3, rfl, q3⟩⟩
    | _ => exact False.elim hq'
theorem qe_mak (px : Px X E) (D : MakQ X.prog X.w X.K X.mg X.base k x ps f) (hr : Room (k + 1) X.A) (hg : Gl X x) (ha : QA X E (e :: es) fa) (hdb : (x == ("__debug__" : Str)) = false := by decide)
    (he : starEach (e :: es) X.env = (false, eval e X.env) :: starEach es X.env := by rfl) (hpl : (backTo pos (starEach es X.env)).any (·.1) = false := by rfl) : QE X E (.Call (.Name x p) (e :: es) [] pos) (eMak x f fa) := by
  refine ⟨⟨fun pins s σ H Q I hq => ?_⟩⟩
  obtain ⟨ρ, μ, P, XX, hh, hm, hf, hv, hx⟩ := hq
  obtain ⟨a, fd, F, M, hb⟩ := D.ex
  refine wpAny_Call_Name_kw (ld_glob I hg D.g ?_ hdb)
  refine PySem.W.callWith_K (h₀ := X.base) I.ok.mod.kin M.kp (thn (ha.go pos I hh hm hf hx) fun us s1 ⟨vs, H1, ws, μ1, I1, r, p1, e1, m1, r1⟩ => ⟨I1.kIn, ?_⟩) he hpl
  exact run_mk px D hr I1 r r1 m1 p1 (hv.stp e1) (hx.stp e1)
theorem qe_mak0 (px : Px X E) (D : MakQ X.prog X.w X.K X.mg X.base k x ps f) (hr : Room (k + 1) X.A) (hg : Gl X x) (hdb : (x == ("__debug__" : Str)) = false := by decide) : QE X E (.Call (.Name x p) [] [] pos) (eMak x f aNil) := by
  refine ⟨⟨fun pins s σ H Q I hq => ?_⟩⟩
  obtain ⟨ρ, μ, P, XX, hh, hm, hf, hv, hx⟩ := hq
  obtain ⟨a, fd, F, M, hb⟩ := D.ex
  refine wpAny_Call_Name_kw (ld_glob I hg D.g ?_ hdb)
  exact PySem.W.callWith_K0 I.kIn M.kp (run_mk (us := []) px D hr I .nil .nil hm hf hv hx)
end
end Q
namespace Q
open PySem L2 Evl RZ
/-! walks: loops, comprehensions -/
structure ItW (K : Frag) (J : It) (Rel : Hp → Mu → Prop) (std : Mu → Prop) (ws : List W) : Prop where
  mono : ∀ H μ H' μ', Rel H μ → Stp μ H μ' H' → Rel H' μ'
  go : ∀ i H μ, Rel H μ → Mem K H μ → std μ → i < ws.length → J.go i H
  yld : ∀ i H μ x H' y, Rel H μ → Mem K H μ → std μ → ws[i]? = some y → J.yld i H x H' → Stp μ H μ H' ∧ Mem K H' μ ∧ Rw K H' μ x y
  stop : ∀ i H μ, Rel H μ → Mem K H μ → std μ → ws.length ≤ i → J.stop i H
abbrev FI := Rho → Mu → ((Mu → Prop) → List W → Mu → Prop) → Xo → Prop
def tI (K : Frag) (E : L2.St → XK) (f : FI) : TI := fun σ H R => ∃ ρ μ P X, Holds K H μ σ ρ ∧ Mem K H μ ∧ f ρ μ P X ∧
  (∀ std ws μ1 H1 J Rel, P std ws μ1 → Stp μ H μ1 H1 → Mem K H1 μ1 → Rel H1 μ1 → ItW K J Rel std ws → R J H1) ∧ XL K (E σ) μ H X
structure QI (X : Cx) (E : L2.St → XK) (tg iter : Expr) (f : FI) : Prop where
  pi : PI X tg iter (tI X.K E f)
theorem PI.qimp {X : Cx} {tg e : Expr} {t t' : TI} (h : PI X tg e t) (k : ∀ σ H R, t' σ H R → t σ H R) : PI X tg e t' := ⟨fun pins s σ H Q I q => h.run pins s σ H Q I (k σ H Q q)⟩
/-! what is walked -/
theorem itw_list {K : Frag} {a : Addr} {w : W} {ws : List W} : ItW K (Itl K a) (fun H μ => Rw K H μ (.ref a) w) (fun μ => rdL μ w = some ws) ws where
  mono := fun _ _ _ _ r e => r.stp e
  go := fun i H μ r m h hi => by
    obtain ⟨b, vs, e, q, hs⟩ := rdL_at h r m
    cases e
    obtain ⟨v, e1, _⟩ := RwAll.at i hs (List.getElem?_eq_getElem hi)
    exact ⟨vs, v, q, e1⟩
  yld := fun i H μ x H' y r m h hy q => by
    obtain ⟨e, q⟩ := q
    subst e
    obtain ⟨b, vs, e, q2, hs⟩ := rdL_at h r m
    cases e
    obtain ⟨v, e1, r1⟩ := RwAll.at i hs hy
    have e2 := q vs q2
    rw [e1] at e2
    cases e2
    exact ⟨Stp.refl _ _, m, r1⟩
  stop := fun i H μ r m h hi => by
    obtain ⟨b, vs, e, q, hs⟩ := rdL_at h r m
    cases e
    exact ⟨vs, q, by rw [hs.len]; exact hi⟩
theorem itw_tup {K : Frag} {a : Addr} {ws : List W} {std : Mu → Prop} : ItW K (Itt K a) (fun H μ => Rw K H μ (.ref a) (.tup ws)) std ws where
  mono := fun _ _ _ _ r e => r.stp e
  go := fun i H μ r m h hi => by
    cases r with
    | tup q hs =>
      obtain ⟨v, e1, _⟩ := RwAll.at i hs (List.getElem?_eq_getElem hi)
      exact ⟨_, v, tup_sq q, e1⟩
  yld := fun i H μ x H' y r m h hy q => by
    obtain ⟨e, q⟩ := q
    subst e
    cases r with
    | tup q2 hs =>
      obtain ⟨v, e1, r1⟩ := RwAll.at i hs hy
      have e2 := q _ (tup_sq q2)
      rw [e1] at e2
      cases e2
      exact ⟨Stp.refl _ _, m, r1⟩
  stop := fun i H μ r m h hi => by
    cases r with
    | tup q hs => exact ⟨_, tup_sq q, by rw [hs.len]; exact hi⟩
/-- the signs of a text -/
def signs (z : Str) : List W := z.cps.toList.map fun c => .str ⟨#[c]⟩
theorem itw_str {K : Frag} {z : Str} {std : Mu → Prop} : ItW K (Its z) (fun _ _ => True) std (signs z) where
  mono := fun _ _ _ _ _ _ => trivial
  go := fun i H μ _ _ _ hi => by
    have h2 : i < z.cps.toList.length := by simpa [signs] using hi
    simpa [Its] using h2
  yld := fun i H μ x H' y _ m _ hy q => by
    obtain ⟨e, c, hc, rfl⟩ := q
    subst e
    unfold signs at hy
    rw [List.getElem?_map, Array.getElem?_toList, hc] at hy
    cases hy
    exact ⟨Stp.refl _ _, m, .str _⟩
  stop := fun i H μ _ _ _ hi => by
    have h2 : z.cps.toList.length ≤ i := by simpa [signs] using hi
    simpa [Its] using h2
def nums (lo : Int) (n : Nat) : List W := (List.range n).map fun (i : Nat) => .int (lo + (i : Int))
theorem itw_range {K : Frag} {lo : Int} {n : Nat} {std : Mu → Prop} : ItW K (Itr lo n) (fun _ _ => True) std (nums lo n) where
  mono := fun _ _ _ _ _ _ => trivial
  go := fun i H μ _ _ _ hi => by simpa [nums, Itr] using hi
  yld := fun i H μ x H' y _ m _ hy q => by
    obtain ⟨e, rfl⟩ := q
    subst e
    unfold nums at hy
    rw [List.getElem?_map] at hy
    obtain ⟨j, h1, h2⟩ := Option.map_eq_some_iff.mp hy
    obtain ⟨h3, h4⟩ := List.getElem?_eq_some_iff.mp h1
    rw [List.getElem_range] at h4
    subst h4
    subst h2
    exact ⟨Stp.refl _ _, m, .int _⟩
  stop := fun i H μ _ _ _ hi => by simpa [nums, Itr] using hi
section
variable {X : Cx} {E : L2.St → XK} {tg : Expr}
@[reducible] def iSq (e : FE) : FI := fun ρ μ P X => e ρ μ (fun w μ1 => match w with
  | .str z => P (fun _ => True) (signs z) μ1
  | .tup ws => P (fun _ => True) ws μ1
  | w => (match rdL μ1 w with
    | some ws => P (fun μ => rdL μ w = some ws) ws μ1
    | none => False)) X
theorem qi_seq {l : Expr} {f : FE} (hl : QE X E l f) : QI X E tg l (iSq f) := ⟨⟨fun pins s σ H R I h => by
  obtain ⟨ρ, μ, P, XX, hh, hm, hf, hk, hx⟩ := h
  refine thn (hl.go I hh hm hf hx) fun u s1 ⟨v, H1, w, μ1, I1, rx, p1, e1, m1, r1⟩ => ?_
  split at p1
  · rename_i z
    have ev := rw_str r1
    subst ev
    obtain ⟨t, rfl⟩ := rx
    have q := hk _ _ μ1 H1 (Its z) (fun _ _ => True) p1 e1 m1 trivial itw_str
    cases ha : z.cps.all (· < 128)
    · exact wpAny_pyIter_wide ha (pi_one (tk := s1.toks) I1 _ (turn_str _ z t "str_iterator" (.inr rfl)) ⟨_, Heap.get?_push_size _ rfl, rfl, rfl⟩ q)
    · exact wpAny_pyIter_ascii ha (pi_one (tk := s1.toks) I1 _ (turn_str _ z t "str_ascii_iterator" (.inl rfl)) ⟨_, Heap.get?_push_size _ rfl, rfl, rfl⟩ q)
  · have r2 := r1
    cases r1 with
    | @tup a vs _ q hs =>
      cases rx
      obtain ⟨its, rv, pt, hz⟩ := I1.tuple (tup_sq q)
      have q2 := hk _ _ μ1 H1 (Itt X.K a) _ p1 e1 m1 r2 itw_tup
      exact wpAny_pyIter_tuple (show s1.heap.IsTuple a its.toArray from pt) (pi_one (tk := s1.toks) I1 _ (turn_tuple a _) ⟨_, Heap.get?_push_size _ rfl, rfl, rfl⟩ q2)
  · split at p1
    · rename_i ws ew
      obtain ⟨a, vs, rfl, q, hs⟩ := rdL_at ew r1 m1
      cases rx
      obtain ⟨its, rv, pt, hz⟩ := I1.list q
      have q2 := hk _ _ μ1 H1 (Itl X.K a) _ p1 e1 m1 r1 itw_list
      exact wpAny_pyIter_list pt.isList (pi_one (tk := s1.toks) I1 _ (turn_list a _) ⟨_, Heap.get?_push_size _ rfl, rfl, rfl⟩ q2)
    · exact p1.elim⟩⟩
@[reducible] def iR1 (a : FA) : FI := fun ρ μ P X => a ρ μ (fun ws μ1 => match ws with
  | [.int n] => (-(2 ^ 62) ≤ n ∧ n < 2 ^ 62) ∧ P (fun _ => True) (nums 0 n.toNat) μ1
  | _ => False) X
@[reducible] def iR2 (a : FA) : FI := fun ρ μ P X => a ρ μ (fun ws μ1 => match ws with
  | [.int i, .int j] => (-(2 ^ 62) ≤ i ∧ i < 2 ^ 62 ∧ -(2 ^ 62) ≤ j ∧ j < 2 ^ 62) ∧ P (fun _ => True) (nums i (j - i).toNat) μ1
  | _ => False) X
theorem qi_range1 {a : Expr} {f : FA} {p pos : Pos} (hg : Gl X "range") (hm : X.mg "range" = none) (ha : QA X E [a] f) (hs : starEach [a] X.env = [(false, eval a X.env)] := by rfl) : QI X E tg (.Call (.Name "range" p) [a] [] pos) (iR1 f) := ⟨PI.qimp (pi_range1 hg hm ha.pa hs) fun σ H R h => by
  obtain ⟨ρ, μ, P, XX, hh, hm, hf, hk, hx⟩ := h
  refine ⟨ρ, μ, _, XX, hh, hm, hf, fun ws μ1 vs H1 p1 e1 m1 r1 => ?_, hx⟩
  split at p1
  · obtain ⟨v, rfl, r⟩ := r1.one
    have ev := rw_int r
    subst ev
    exact ⟨_, rfl, p1.1.1, p1.1.2, hk _ _ μ1 H1 _ (fun _ _ => True) p1.2 e1 m1 trivial itw_range⟩
  · exact p1.elim⟩
theorem qi_range2 {a b : Expr} {f : FA} {p pos : Pos} (hg : Gl X "range") (hm : X.mg "range" = none) (ha : QA X E [a, b] f) (hs : starEach [a, b] X.env = [(false, eval a X.env), (false, eval b X.env)] := by rfl) (hs2 : starEach [b] X.env = [(false, eval b X.env)] := by rfl) : QI X E tg (.Call (.Name "range" p) [a, b] [] pos) (iR2 f) := ⟨PI.qimp (pi_range2 hg hm ha.pa hs hs2) fun σ H R h => by
  obtain ⟨ρ, μ, P, XX, hh, hm, hf, hk, hx⟩ := h
  refine ⟨ρ, μ, _, XX, hh, hm, hf, fun ws μ1 vs H1 p1 e1 m1 r1 => ?_, hx⟩
  split at p1
  · obtain ⟨v, w, rfl, r, r'⟩ := r1.two
    have ev := rw_int r
    subst ev
    have ew := rw_int r'
    subst ew
    exact ⟨_, _, rfl, p1.1, hk _ _ μ1 H1 _ (fun _ _ => True) p1.2 e1 m1 trivial itw_range⟩
  · exact p1.elim⟩
end
/-! ### for -/
def itS (std : Mu → Prop) (g : FG) (b : FS) : List W → Rho → Mu → En → Prop
  | [], ρ, μ, N => std μ ∧ N.nx ρ μ
  | w :: ws, ρ, μ, N => std μ ∧ g w ρ μ fun ρ1 μ1 => b ρ1 μ1 { nx := fun ρ' μ' => itS std g b ws ρ' μ' N, ct := fun ρ' μ' => itS std g b ws ρ' μ' N, bk := N.nx, rt := N.rt, ex := N.ex }
@[reducible] def sFor (i : FI) (g : FG) (b : FS) : FS := fun ρ μ N => i ρ μ (fun std ws μ1 => itS std g b ws ρ μ1 N) (N.ex ρ)
theorem qs_for {X : Cx} {E : L2.St → XK} {tg iter : Expr} {body : List Stmt} {fi : FI} {g : FG} {b : FS} {pos : Pos} (po : PassesOwn (model X.prog X.w) X.A X.env X.xe) (hc : X.calm = true) (hi : QI X E tg iter fi) (hg : QG X tg g) (hb : QSs X E body b)
    (hs : ∀ x, foldedSetIterable iter X.env x = pure x := by intro _; rfl) : QS X E (.For tg iter body [] pos) (sFor fi g b) := ⟨(ps_for po hc hi.pi hg.pg hb.pss hs).qimp fun D σ H h => by
  obtain ⟨ρ, μ, N, hh, hm, hf, l⟩ := h
  refine ⟨ρ, μ, _, _, hh, hm, hf, fun std ws μ1 H1 J Rel p1 e1 m1 rel itw => ?_, l.xl hh⟩
  refine ⟨fun i m σ' H' => m = ws.length - i ∧ i ≤ ws.length ∧ ∃ ρ' μ', itS std g b (ws.drop i) ρ' μ' N ∧ Stp μ1 H1 μ' H' ∧ Mem X.K H' μ' ∧ Holds X.K H' μ' σ' ρ', ⟨ws.length, by simp, Nat.zero_le _, ρ, μ1, by simpa using p1, Stp.refl _ _, m1, hh.stp e1⟩, ?_⟩
  rintro i m σ' H' ⟨rfl, hi2, ρ', μ', q, e2, m2, h2⟩
  have rel2 := itw.mono _ _ _ _ rel e2
  by_cases hlt : i < ws.length
  · have ed : ws.drop i = ws[i] :: ws.drop (i + 1) := List.drop_eq_getElem_cons hlt
    rw [ed] at q
    obtain ⟨hstd, q⟩ := q
    refine .inr ⟨itw.go i H' μ' rel2 m2 hstd hlt, fun σ3 H3 => ∃ ρ3 μ3, itS std g b (ws.drop (i + 1)) ρ3 μ3 N ∧ Stp μ1 H1 μ3 H3 ∧ Mem X.K H3 μ3 ∧ Holds X.K H3 μ3 σ3 ρ3, fun σ3 H3 ⟨ρ3, μ3, q3, e3, m3, h3⟩ => ⟨ws.length - (i + 1), by omega, rfl, hlt, ρ3, μ3, q3, e3, m3, h3⟩, fun x H3 y => ?_⟩
    obtain ⟨e3, m3, r3⟩ := itw.yld i H' μ' x H3 _ rel2 m2 hstd (List.getElem?_eq_getElem hlt) y
    have e13 := e2.trans e3
    refine ⟨_, ρ', μ', _, r3, h2.stp e3, m3, q, fun ρ4 μ4 σ4 H4 p4 e4 m4 h4 => ⟨ρ4, μ4, _, h4, m4, p4, ?_⟩⟩
    have e04 := (e1.trans e13).trans e4
    exact ⟨fun ρ5 μ5 σ5 H5 n e m h => ⟨ρ5, μ5, n, (e13.trans e4).trans e, m, h⟩, fun w μ5 v H5 n e m r => l.rt w μ5 v H5 n (e04.trans e) m r, fun ρ5 μ5 σ5 H5 n e m h => l.nx ρ5 μ5 σ5 H5 n (e04.trans e) m h, fun ρ5 μ5 σ5 H5 n e m h => ⟨ρ5, μ5, n, (e13.trans e4).trans e, m, h⟩, fun ρ5 c fs μ5 d σ5 H5 n e m h p => l.ex ρ5 c fs μ5 d σ5 H5 n (e04.trans e) m h p⟩
  · have ei : i = ws.length := by omega
    subst ei
    rw [List.drop_length] at q
    exact .inl ⟨itw.stop _ H' μ' rel2 m2 q.1 (Nat.le_refl _), l.nx ρ' μ' σ' H' q.2 (e1.trans e2) m2 h2⟩⟩
/-- by an invariant over the turns -/
theorem itS_inv {std : Mu → Prop} {g : FG} {b : FS} {N : En} (ws : List W) (I : Nat → Rho → Mu → Prop) {ρ : Rho} {μ : Mu} (h0 : I 0 ρ μ)
    (hs : ∀ i w ρ μ, ws[i]? = some w → I i ρ μ → std μ ∧ ∀ K : Rho → Mu → Prop, (∀ ρ' μ', I (i + 1) ρ' μ' → K ρ' μ') → g w ρ μ fun ρ1 μ1 => b ρ1 μ1 { nx := K, ct := K, bk := N.nx, rt := N.rt, ex := N.ex })
    (hd : ∀ ρ μ, I ws.length ρ μ → std μ ∧ N.nx ρ μ) : itS std g b ws ρ μ N := by
  have key : ∀ (n i : Nat) (ρ : Rho) (μ : Mu), n = ws.length - i → i ≤ ws.length → I i ρ μ → itS std g b (ws.drop i) ρ μ N := by
    intro n
    induction n with
    | zero =>
      intro i ρ μ hn hi h
      have e : i = ws.length := by omega
      subst e
      rw [List.drop_length]
      exact hd ρ μ h
    | succ n ih =>
      intro i ρ μ hn hi h
      have hlt : i < ws.length := by omega
      rw [List.drop_eq_getElem_cons hlt]
      obtain ⟨h1, h2⟩ := hs i ws[i] ρ μ (List.getElem?_eq_getElem hlt) h
      exact ⟨h1, h2 _ fun ρ' μ' q => ih (i + 1) ρ' μ' (by omega) hlt q⟩
  simpa using key ws.length 0 ρ μ (by simp) (Nat.zero_le _) h0
/-! ### while -/
inductive itWh (c : FT) (b : FS) : Rho → Mu → En → Prop
  | mk {ρ : Rho} {μ : Mu} {N : En} (I : Nat → Rho → Mu → Prop) (n : Nat) (h : I n ρ μ)
      (step : ∀ n ρ μ, I n ρ μ → c ρ μ (fun d μ1 => if d = true then b ρ μ1 { nx := fun ρ' μ' => ∃ m, m < n ∧ I m ρ' μ', ct := fun ρ' μ' => ∃ m, m < n ∧ I m ρ' μ', bk := N.nx, rt := N.rt, ex := N.ex } else N.nx ρ μ1) (N.ex ρ)) : itWh c b ρ μ N
theorem qs_while {X : Cx} {E : L2.St → XK} {test : Expr} {body : List Stmt} {c : FT} {b : FS} {pos : Pos} (po : PassesOwn (model X.prog X.w) X.A X.env X.xe) (hc : QT X E test c) (hb : QSs X E body b) : QS X E (.While test body [] pos) (itWh c b) := ⟨(ps_while po hc.pt hb.pss).qimp fun D σ H h => by
  obtain ⟨ρ, μ, N, hh, hm, hf, l⟩ := h
  cases hf with
  | mk I n h0 step =>
  refine ⟨fun m σ' H' => ∃ ρ' μ', I m ρ' μ' ∧ Stp μ H μ' H' ∧ Mem X.K H' μ' ∧ Holds X.K H' μ' σ' ρ', ⟨n, ρ, μ, h0, Stp.refl _ _, hm, hh⟩, ?_⟩
  rintro m σ' H' ⟨ρ', μ', q, e2, m2, h2⟩
  refine ⟨ρ', μ', _, _, h2, m2, step m ρ' μ' q, fun d μ3 H3 p3 e3 m3 => ?_, (l.stp e2).xl h2⟩
  have e13 := e2.trans e3
  cases d with
  | true =>
    refine iteT ⟨fun σ4 H4 => ∃ m', m' < m ∧ ∃ ρ' μ', I m' ρ' μ' ∧ Stp μ H μ' H4 ∧ Mem X.K H4 μ' ∧ Holds X.K H4 μ' σ4 ρ', fun _ _ h => h, ρ', μ3, _, h2.stp e3, m3, (if_pos rfl).mp p3, ?_⟩
    exact ⟨fun ρ5 μ5 σ5 H5 ⟨m', hm', n⟩ e m h => ⟨m', hm', ρ5, μ5, n, e13.trans e, m, h⟩, fun w μ5 v H5 n e m r => l.rt w μ5 v H5 n (e13.trans e) m r, fun ρ5 μ5 σ5 H5 n e m h => l.nx ρ5 μ5 σ5 H5 n (e13.trans e) m h, fun ρ5 μ5 σ5 H5 ⟨m', hm', n⟩ e m h => ⟨m', hm', ρ5, μ5, n, e13.trans e, m, h⟩, fun ρ5 c fs μ5 d σ5 H5 n e m h p => l.ex ρ5 c fs μ5 d σ5 H5 n (e13.trans e) m h p⟩
  | false => exact iteF (l.nx ρ' μ3 σ' H3 ((if_neg (by decide)).mp p3) e13 m3 (h2.stp e3))⟩
/-! ### a dict is locked -/
end Q
namespace Q
open PySem PySem.Spec PyProof.Rows L2 Evl
/-! comprehensions: what is made is tracked while it is made; nothing is raised within -/
@[reducible] def wv : Rho → List Nat → Rho
  | ρ, [] => ρ
  | ρ, v :: vs => hv (wv ρ vs) v
theorem Holds.wv {K : Frag} {H : Hp} {μ : Mu} {σ : L2.St} {ρ : Rho} (h : Holds K H μ σ ρ) : ∀ vs : List Nat, Holds K H μ (wipe σ vs) (Q.wv ρ vs)
  | [] => h
  | v :: vs => by
    show Holds K H μ ((wipe σ vs).set v none) (hv (Q.wv ρ vs) v)
    rw [hv_set]
    exact (Holds.wv h vs).hide v
/-! targets of own names -/
def tGv (K : Frag) (g : FG) (vs : List Nat) : TG := fun v σ H Q => ∃ w ρ μ P, Rw K H μ v w ∧ Holds K H μ σ ρ ∧ Mem K H μ ∧ g w ρ μ P ∧ ∀ ρ' μ' σ' H', P ρ' μ' → Stp μ H μ' H' → Mem K H' μ' → Holds K H' μ' σ' ρ' → wipe σ' vs = wipe σ vs → Q σ' H'
def tGvs (K : Frag) (g : FGs) (vs : List Nat) : TGs := fun us σ H Q => ∃ ws ρ μ P, RwAll K H μ us ws ∧ Holds K H μ σ ρ ∧ Mem K H μ ∧ g ws ρ μ P ∧ ∀ ρ' μ' σ' H', P ρ' μ' → Stp μ H μ' H' → Mem K H' μ' → Holds K H' μ' σ' ρ' → wipe σ' vs = wipe σ vs → Q σ' H'
structure QGv (X : Cx) (e : Expr) (g : FG) (vs : List Nat) : Prop where
  pg : PG X e (tGv X.K g vs)
structure QGvs (X : Cx) (es : List Expr) (g : FGs) (vs : List Nat) : Prop where
  pgs : PGs X es (tGvs X.K g vs)
theorem wipe_put {σ : L2.St} {i : Nat} {x : Option V} {vs : List Nat} (h : i ∈ vs) : wipe (σ.set i x) vs = wipe σ vs := by
  induction vs with
  | nil => cases h
  | cons v vs ih =>
    show (wipe (σ.set i x) vs).set v none = (wipe σ vs).set v none
    by_cases hm : i ∈ vs
    · rw [ih hm]
    · rcases List.mem_cons.mp h with e | e
      · subst e
        have key : ∀ (us : List Nat), i ∉ us → wipe (σ.set i x) us = (wipe σ us).set i x := by
          intro us
          induction us with
          | nil => intro _; rfl
          | cons u us ih2 =>
            intro hu
            show (wipe (σ.set i x) us).set u none = ((wipe σ us).set u none).set i x
            rw [ih2 (fun z => hu (List.mem_cons_of_mem _ z)), List.set_comm _ _ (fun z => hu (by rw [z]; exact List.mem_cons_self))]
        rw [key vs hm, List.set_set]
      · exact absurd e hm
theorem wipe_wipe (σ : L2.St) (us : List Nat) : wipe (wipe σ us) us = wipe σ us := by
  have key : ∀ (as bs : List Nat), (∀ a ∈ as, a ∈ bs) → wipe (wipe σ as) bs = wipe σ bs := by
    intro as bs
    induction as with
    | nil => intro _; rfl
    | cons a as ih =>
      intro h
      show wipe ((wipe σ as).set a none) bs = _
      rw [wipe_put (h a List.mem_cons_self), ih fun z hz => h z (List.mem_cons_of_mem _ hz)]
  exact key us us fun _ h => h
theorem qgv_name {X : Cx} {i : Nat} {x : Str} {pos : Pos} {vs : List Nat} (hN : X.N.Nodup) (hi : X.N[i]? = some x) (hx : Loc X.env.scope x) (hm : i ∈ vs := by decide) (hf : X.fn x = true ∨ X.env.scope.names.lookup x = some .local := by first | exact .inl rfl | exact .inr rfl | assumption) : QGv X (.Name x pos) (gN i) vs := ⟨(pg_name hN hi hx hf).qimp fun v σ H Q h => by
  obtain ⟨w, ρ, μ, P, r, hh, hmm, hg, q⟩ := h
  exact q _ μ _ H hg (Stp.refl μ H) hmm (hh.sv i r) (wipe_put hm)⟩
theorem qgvs_nil {X : Cx} {vs : List Nat} : QGvs X [] gsNil vs := ⟨(pgs_nil (X := X)).qimp fun us σ H Q h => by
  obtain ⟨ws, ρ, μ, P, r, hh, hm, hg, q⟩ := h
  cases r with
  | nil => exact ⟨rfl, q ρ μ σ H hg (Stp.refl μ H) hm hh rfl⟩
  | cons _ _ => exact hg.elim⟩
theorem qgvs_cons {X : Cx} {e : Expr} {es : List Expr} {g : FG} {r : FGs} {vs : List Nat} (h1 : QGv X e g vs) (h2 : QGvs X es r vs)
    (hs : (assignEach (e :: es) X.env).map (·.2) = assign e X.env :: (assignEach es X.env).map (·.2) := by rfl) : QGvs X (e :: es) (gsCons g r) vs := ⟨(pgs_cons h1.pg h2.pgs hs).qimp fun us σ H Q h => by
  obtain ⟨ws, ρ, μ, P, r, hh, hm, hg, q⟩ := h
  cases r with
  | nil => exact hg.elim
  | @cons v vr w wr r rr => exact ⟨v, vr, rfl, w, ρ, μ, _, r, hh, hm, hg, fun ρ1 μ1 σ1 H1 p1 e1 m1 h1 w1 => ⟨wr, ρ1, μ1, P, rr.stp e1, h1, m1, p1, fun ρ' μ' σ' H' p e m h w2 => q ρ' μ' σ' H' p (e1.trans e) m h (w2.trans w1)⟩⟩⟩
theorem qgv_tup {X : Cx} {es : List Expr} {k : Nat} {g : FGs} {n : Nat} {pos : Pos} {vs : List Nat} (hc : X.calm = true) (h : QGvs X es g vs)
    (hn : (assignEach es X.env).length = n := by rfl) (hst : (assignEach es X.env).findIdx? (·.1) = none := by rfl) : QGv X (.Tuple es k pos) (gT n g) vs := ⟨(pg_tup hc h.pgs hn hst).qimp fun v σ H Q h => by
  obtain ⟨w, ρ, μ, P, r, hh, hm, hg, q⟩ := h
  cases r with
  | tup hq hs => exact ⟨_, _, rfl, tup_sq hq, hs.len.trans hg.1, _, ρ, μ, P, hs, hh, hm, hg.2, q⟩
  | _ => exact hg.elim⟩
/-! tests -/
@[reducible] def cYes : FT := fun _ μ P _ => P true μ
structure QTs (X : Cx) (ifs : List Expr) (f : FT) : Prop where
  pts : PTs X ifs (tT X.K EN f)
theorem _root_.L2.PTs.qimp {X : Cx} {e : List Expr} {t t' : TT} (h : PTs X e t) (k : ∀ σ H Q, t' σ H Q → t σ H Q) : PTs X e t' := ⟨fun pins s σ H Q I q => h.run pins s σ H Q I (k σ H Q q)⟩
theorem qts_nil {X : Cx} : QTs X [] cYes := ⟨(pts_nil (X := X)).qimp fun σ H Q h => by
  obtain ⟨ρ, μ, P, XX, hh, hm, hf, hv, hx⟩ := h
  exact hv true μ H hf (Stp.refl μ H) hm⟩
theorem qts_one {X : Cx} {c : Expr} {f : FT} (h : QT X EN c f) : QTs X [c] f := ⟨pts_one h.pt⟩
/-! [e for .. in .. if c] -/
def lcS (std : Mu → Prop) (g : FG) (c : FT) (e : FE) (p : Addr) (k : List W → Mu → Prop) (ρ : Rho) : List W → List W → Mu → Prop
  | [], acc, μ => std μ ∧ k acc μ
  | w :: ws, acc, μ => std μ ∧ g w ρ μ fun ρ2 μ2 => c ρ2 μ2 (fun b μ3 => if b = true then e ρ2 μ3 (fun y μ4 => μ4 p = some (.ls acc) ∧ acc.length < 16000000 ∧ lcS std g c e p k ρ ws (acc ++ [y]) (mset μ4 p (.ls (acc ++ [y])))) (fun _ _ _ => False) else μ3 p = some (.ls acc) ∧ lcS std g c e p k ρ ws acc μ3) (fun _ _ _ => False)
/-- .. as a value (V), tracked (R) -/
def lcVK (std : Mu → Prop) (g : FG) (c : FT) (e : FE) (ρ : Rho) (ws : List W) (P : Po) (μ1 : Mu) : Prop := ∀ p, μ1 p = none → lcS std g c e p (fun acc μ' => ∃ μ'', Sub μ'' μ' ∧ μ'' p = none ∧ P (.lst acc) μ'') ρ ws [] (mset μ1 p (.ls []))
def lcRK (std : Mu → Prop) (g : FG) (c : FT) (e : FE) (ρ : Rho) (ws : List W) (P : Po) (μ1 : Mu) : Prop := ∀ p, μ1 p = none → lcS std g c e p (fun _ μ' => P (.ref p) μ') ρ ws [] (mset μ1 p (.ls []))
@[reducible] def eLcV (i : FI) (vs : List Nat) (g : FG) (c : FT) (e : FE) : FE := fun ρ μ P X => i ρ μ (fun std ws μ1 => lcVK std g c e (wv ρ vs) ws P μ1) X
@[reducible] def eLcR (i : FI) (vs : List Nat) (g : FG) (c : FT) (e : FE) : FE := fun ρ μ P X => i ρ μ (fun std ws μ1 => lcRK std g c e (wv ρ vs) ws P μ1) X
theorem xl_no {K : Frag} {μ : Mu} {H : Hp} {σ : L2.St} : XL K (EN σ) μ H (fun _ _ _ => False) := fun _ _ _ _ _ z => z.elim
theorem lc_tl {K : Frag} {E : L2.St → XK} {fi : FI} {g : FG} {c : FT} {e : FE} {vs : List Nat} {σ : L2.St} {H : Hp} {Q : VK} {kk : (Po) → Addr → List W → Mu → Prop} {ρ : Rho} {μ : Mu} {P : Po} {X : Xo}
    (hk : ∀ p acc μ' H', kk P p acc μ' → μ' p = some (.ls acc) → Stp μ H μ' H' → Mem K H' μ' → Q (.ref p) H')
    (hh : Holds K H μ σ ρ) (hm : Mem K H μ) (hf : fi ρ μ (fun std ws μ1 => ∀ p, μ1 p = none → lcS std g c e p (kk P p) (wv ρ vs) ws [] (mset μ1 p (.ls []))) X) (hx : XL K (E σ) μ H X) : tLc (tI K E fi) (tGv K g vs) (tT K EN c) (tE K EN e) vs σ H Q := by
  refine ⟨ρ, μ, _, X, hh, hm, hf, fun std ws μ1 H1 J Rel p1 e1 m1 rel itw D hD => ?_, hx⟩
  have hp := m1.free hD
  have sD : Stp μ1 H1 (mset μ1 D (.ls [])) (upd H1 D (.lst [])) := Stp.newT hD
  refine ⟨fun i m H' => m = ws.length - i ∧ i ≤ ws.length ∧ ∃ acc μ', lcS std g c e D (kk P D) (wv ρ vs) (ws.drop i) acc μ' ∧ μ' D = some (.ls acc) ∧ Stp μ1 H1 μ' H' ∧ Mem K H' μ', ⟨ws.length, by simp, Nat.zero_le _, [], _, by simpa using p1 D hp, mset_same, sD, new_ls m1 hD .nil⟩, ?_⟩
  rintro i m H' ⟨rfl, hi2, acc, μ', q, eD, e2, m2⟩
  have rel2 := itw.mono _ _ _ _ rel e2
  by_cases hlt : i < ws.length
  · have ed : ws.drop i = ws[i] :: ws.drop (i + 1) := List.drop_eq_getElem_cons hlt
    rw [ed] at q
    obtain ⟨hstd, q⟩ := q
    refine .inr ⟨itw.go i H' μ' rel2 m2 hstd hlt, fun H3 => ∃ acc μ3, lcS std g c e D (kk P D) (wv ρ vs) (ws.drop (i + 1)) acc μ3 ∧ μ3 D = some (.ls acc) ∧ Stp μ1 H1 μ3 H3 ∧ Mem K H3 μ3, fun H3 z => ⟨ws.length - (i + 1), by omega, rfl, hlt, z⟩, fun x H3 y => ?_⟩
    obtain ⟨e3, m3, r3⟩ := itw.yld i H' μ' x H3 _ rel2 m2 hstd (List.getElem?_eq_getElem hlt) y
    have e13 := e2.trans e3
    have e03 := e1.trans e13
    refine ⟨_, wv ρ vs, μ', _, r3, (hh.stp e03).wv vs, m3, q, fun ρ4 μ4 σ4 H4 p4 e4 m4 h4 w4 => ⟨w4.trans (wipe_wipe σ vs), ρ4, μ4, _, _, h4, m4, p4, fun b μ5 H5 p5 e5 m5 => ?_, xl_no⟩⟩
    · cases b with
      | true => 
        refine iteT ⟨ρ4, μ5, _, _, h4.stp e5, m5, (if_pos rfl).mp p5, fun y μ6 v H6 p6 e6 m6 r6 => ?_, xl_no⟩
        obtain ⟨q1, q2, q3⟩ := p6
        obtain ⟨vs', h1, h2⟩ := m6 _ _ q1
        have st : Stp μ6 H6 (mset μ6 D (.ls (acc ++ [y]))) (upd H6 D (.lst (vs' ++ [v]))) := Stp.put q1 (nf_lst h1)
        refine ⟨vs', h1, by rw [h2.len]; exact biglt q2, acc ++ [y], _, q3, mset_same, (((e13.trans e4).trans e5).trans e6).trans st, m6.put st ⟨_, upd_same, (h2.app (.cons r6 .nil)).stp st⟩⟩
      | false =>
        have p5 := (if_neg (by decide)).mp p5
        exact iteF ⟨acc, μ5, p5.2, p5.1, (e13.trans e4).trans e5, m5⟩
  · have ei : i = ws.length := by omega
    subst ei
    rw [List.drop_length] at q
    exact .inl ⟨itw.stop _ H' μ' rel2 m2 q.1 (Nat.le_refl _), hk D acc μ' H' q.2 eD (e1.trans e2) m2⟩
theorem lcV_tl {K : Frag} {E : L2.St → XK} {fi : FI} {g : FG} {c : FT} {e : FE} {vs : List Nat} {σ : L2.St} {H : Hp} {Q : VK} (h : tE K E (eLcV fi vs g c e) σ H Q) : tLc (tI K E fi) (tGv K g vs) (tT K EN c) (tE K EN e) vs σ H Q := by
  obtain ⟨ρ, μ, P, XX, hh, hm, hf, hv, hx⟩ := h
  refine lc_tl (kk := fun P p acc μ' => ∃ μ'', Sub μ'' μ' ∧ μ'' p = none ∧ P (.lst acc) μ'') (fun p acc μ' H' ⟨μ'', s, n, hP⟩ ep e' m' => ?_) hh hm hf hx
  obtain ⟨us, h1, h2⟩ := m' _ _ ep
  exact hv _ μ'' _ H' hP (e'.trans (s.stp H')) (s.mem m') (.lst ⟨h1, n⟩ (h2.stp (s.stp H')))
theorem lcR_tl {K : Frag} {E : L2.St → XK} {fi : FI} {g : FG} {c : FT} {e : FE} {vs : List Nat} {σ : L2.St} {H : Hp} {Q : VK} (h : tE K E (eLcR fi vs g c e) σ H Q) : tLc (tI K E fi) (tGv K g vs) (tT K EN c) (tE K EN e) vs σ H Q := by
  obtain ⟨ρ, μ, P, XX, hh, hm, hf, hv, hx⟩ := h
  exact lc_tl (kk := fun P p _ μ' => P (.ref p) μ') (fun p acc μ' H' hP ep e' m' => hv _ μ' _ H' hP e' m' (.ref p)) hh hm hf hx
section
variable {X : Cx} {E : L2.St → XK} {elt tg iter : Expr} {ifs : List Expr} {scope : Scope} {own : List (Str × Nat)} {pos : Pos} {fi : FI} {g : FG} {c : FT} {e : FE}
theorem qe_lcV (hc : X.calm = true) (hN : X.N.Nodup) (hi : QI X E tg iter fi) (ok : BlkOk X.N X.env.scope scope own)
    (hg : ∀ (s : Shared) (H : Hp) (C : Addr) (cl : List (Str × Addr)) (fp : List Addr), QGv (X.blk s H scope (compEnvC scope cl C X.env) fp) tg g (own.map (·.2))) (ht : ∀ (s : Shared) (H : Hp) (C : Addr) (cl : List (Str × Addr)) (fp : List Addr), QTs (X.blk s H scope (compEnvC scope cl C X.env) fp) ifs c)
    (he : ∀ (s : Shared) (H : Hp) (C : Addr) (cl : List (Str × Addr)) (fp : List Addr), QE (X.blk s H scope (compEnvC scope cl C X.env) fp) EN elt e) (hs : ∀ x, foldedSetIterable iter X.env x = pure x := by intro _; rfl) :
    QE X E (.ListComp elt [⟨tg, iter, ifs, 0⟩] scope pos) (eLcV fi (own.map (·.2)) g c e) := ⟨(pe_lc hc hN hi.pi ok (fun s H C cl fp => (hg s H C cl fp).pg) (fun s H C cl fp => (ht s H C cl fp).pts) (fun s H C cl fp => (he s H C cl fp).pe) hs).qimp fun σ H Q h => lcV_tl h⟩
theorem qe_lcR (hc : X.calm = true) (hN : X.N.Nodup) (hi : QI X E tg iter fi) (ok : BlkOk X.N X.env.scope scope own)
    (hg : ∀ (s : Shared) (H : Hp) (C : Addr) (cl : List (Str × Addr)) (fp : List Addr), QGv (X.blk s H scope (compEnvC scope cl C X.env) fp) tg g (own.map (·.2))) (ht : ∀ (s : Shared) (H : Hp) (C : Addr) (cl : List (Str × Addr)) (fp : List Addr), QTs (X.blk s H scope (compEnvC scope cl C X.env) fp) ifs c)
    (he : ∀ (s : Shared) (H : Hp) (C : Addr) (cl : List (Str × Addr)) (fp : List Addr), QE (X.blk s H scope (compEnvC scope cl C X.env) fp) EN elt e) (hs : ∀ x, foldedSetIterable iter X.env x = pure x := by intro _; rfl) :
    QE X E (.ListComp elt [⟨tg, iter, ifs, 0⟩] scope pos) (eLcR fi (own.map (·.2)) g c e) := ⟨(pe_lc hc hN hi.pi ok (fun s H C cl fp => (hg s H C cl fp).pg) (fun s H C cl fp => (ht s H C cl fp).pts) (fun s H C cl fp => (he s H C cl fp).pe) hs).qimp fun σ H Q h => lcR_tl h⟩
end
/-! {k: v for .. in .. if c} -/
theorem new_dk {K : Frag} {H : Hp} {μ : Mu} {p : Addr} (m : Mem K H μ) (hp : H p = none) : Mem K (upd H p (.dK [])) (mset μ p (.dk [])) := m.put (Stp.newT hp) ⟨[], upd_same, .nil⟩
/-! ### what comprehensions come to, where their elements change nothing -/
/-- μ' holds all that μ holds -/
def Ext (μ μ' : Mu) : Prop := ∀ a o, μ a = some o → μ' a = some o
theorem Ext.new {μ : Mu} {p : Addr} {o : O} (h : μ p = none) : Ext μ (mset μ p o) := fun a u e => by
  rw [mset_ne fun z => by
    rw [z, h] at e
    cases e]
  exact e
abbrev noX : Xo := fun _ _ _ => False
end Q
namespace Q.So
open PySem L2 Evl
open Q (sLt)
theorem cmpS_gt {P : Program} {w : World} {A : Around} {B : Nat → Value → Prop} (z : Nat → Str) (hz : ∀ i v, B i v → ∃ t, v = .str (z i) t) : CmpOf P w A .Gt B (fun i j => decide ((z j).cps.toList < (z i).cps.toList)) := by
  intro i j vi vj s Q E bi bj h
  obtain ⟨t, rfl⟩ := hz i vi bi
  obtain ⟨u, rfl⟩ := hz j vj bj
  refine richCompare_gives (op := .Gt) (typeIs_str s _ t) (typeIs_str s _ u) F.slot_str_gt F.entry_str_gt ?_ (gives_str_gt _ _ t u) (fun q => nomatch q) h
  exact F.args_str_gt_2 _ _
theorem cmpS_lt {P : Program} {w : World} {A : Around} {B : Nat → Value → Prop} (z : Nat → Str) (hz : ∀ i v, B i v → ∃ t, v = .str (z i) t) : CmpOf P w A .Lt B (fun i j => decide ((z i).cps.toList < (z j).cps.toList)) := by
  intro i j vi vj s Q E bi bj h
  obtain ⟨t, rfl⟩ := hz i vi bi
  obtain ⟨u, rfl⟩ := hz j vj bj
  refine richCompare_gives (op := .Lt) (typeIs_str s _ t) (typeIs_str s _ u) F.slot_str_lt F.entry_str_lt ?_ (gives_str_lt _ _ t u) (fun q => nomatch q) h
  exact F.args_str_lt_2 _ _
section
variable {prog : Program} {w : World} {A : Around} {E : Value → Shared → Prop} {s : Shared}
/-- the walk over the pair that max, min lay down -/
theorem pair_walk {op : CmpOp} {a b : Value} {bt : Nat → Nat → Bool} {Q : Value → Shared → Prop} (hh : A.handled = none) (hc : CmpOf prog w A.in1 op (fun i v => (#[a, b] : Array Value)[i]? = some v) bt)
    (h : ∀ h' tk, (∀ c o, s.heap.get? c = some o → h'.get? c = some o) → Q (if bt 1 0 = true then b else a) { s with heap := h', toks := tk }) :
    wpAny (model prog w) A.in1 (pyIter (.ref s.heap.objs.size)) (fun it s₂ => ∃ I fp wr n P St bt, it = .ref I ∧ Walks prog w A.in1 I fp wr n P St ∧ St 0 s₂.heap ∧ (∀ b ∈ fp, b < s₂.heap.objs.size) ∧ 0 < n ∧ CmpOf prog w A.in1 op P bt ∧
      ∀ v h' tk, P (argBest bt (n - 1)) v → (∀ b o, b ∉ wr → s₂.heap.get? b = some o → h'.get? b = some o) → Q v { s₂ with heap := h', toks := tk }) E
      { s with heap := s.heap.push { cls := .type "tuple", data := .seq #[a, b] } } := by
  have new : (s.heap.push { cls := .type "tuple", data := .seq #[a, b] }).IsTuple s.heap.objs.size #[a, b] := ⟨_, Heap.get?_push_size _ rfl, rfl, 0, rfl⟩
  have sz : (s.heap.push { cls := .type "tuple", data := .seq #[a, b] }).objs.size = s.heap.objs.size + 1 := Heap.size_push ..
  refine wpAny_pyIter_tuple new ?_
  refine ⟨_, [_, s.heap.objs.size], [_], 2, _, _, bt, rfl, Walks.tuple (A := A.in1) hh _ s.heap.objs.size (fun z => Nat.succ_ne_self _ (sz.symm.trans z.symm)) #[a, b], ?_, ?_, by decide, hc, ?_⟩
  · exact ⟨⟨_, Heap.get?_push_size _ rfl, rfl, rfl⟩, new.push _⟩
  · intro c hm
    show c < ((s.heap.push _).push _).objs.size
    rw [Heap.size_push, sz]
    simp only [List.mem_cons, List.not_mem_nil, or_false] at hm
    rcases hm with rfl | rfl
    · rw [sz]
      exact Nat.lt_succ_self _
    · exact Nat.lt_succ_of_lt (Nat.lt_succ_self _)
  · intro v h' tk hP hk
    have old : ∀ c o, s.heap.get? c = some o → h'.get? c = some o := by
      intro c o e
      refine hk c o ?_ (Heap.get?_push_of_some _ (Heap.get?_push_of_some _ e))
      intro hm
      simp only [List.mem_cons, List.not_mem_nil, or_false] at hm
      have l := Heap.lt_size e
      rw [hm, sz] at l
      exact Nat.lt_irrefl _ (Nat.lt_of_succ_lt l)
    have q := h h' tk old
    have hv : v = if bt 1 0 = true then b else a := by
      have hb : argBest bt (2 - 1) = if bt 1 0 = true then 1 else 0 := by simp [argBest]
      rw [hb] at hP
      by_cases c : bt 1 0 = true
      · rw [if_pos c] at hP ⊢
        simpa using hP.symm
      · rw [if_neg c] at hP ⊢
        simpa using hP.symm
    rw [hv]
    exact q
theorem sAt {x y : Str} {t u : Tok} (i : Nat) (v : Value) (h : (#[Value.str x t, Value.str y u] : Array Value)[i]? = some v) : ∃ t', v = .str (if i = 0 then x else y) t' := by
  match i, h with
  | 0, h => exact ⟨t, by simpa using h.symm⟩
  | 1, h => exact ⟨u, by simpa using h.symm⟩
  | n + 2, h => simp at h
end
def sMax (x y : Str) : Str := if sLt x y = true then y else x
def sMin (x y : Str) : Str := if sLt y x = true then y else x
def rMaxS : List V → Hp → VK → Prop := fun xs H Q => ∃ x y, xs = [.str x, .str y] ∧ Q (.str (sMax x y)) H
def rMinS : List V → Hp → VK → Prop := fun xs H Q => ∃ x y, xs = [.str x, .str y] ∧ Q (.str (sMin x y)) H
theorem cr_maxS {X : Cx} (hc : X.calm = true) : CallR X (.builtin "max") rMaxS := by
  intro pins s σ H xs us Q I r h
  obtain ⟨x, y, rfl, q⟩ := h
  obtain ⟨u1, u2, rfl, ⟨t, rfl⟩, ⟨t', rfl⟩⟩ := vals2 r
  refine call_max_two (pair_walk (I.ok.hd hc) (cmpS_gt (fun i => if i = 0 then x else y) (fun i v => sAt i v)) fun h' tk k => ⟨_, H, I.kept k, ?_, q⟩)
  unfold sMax sLt
  by_cases c : x.cps.toList < y.cps.toList
  · simp [c]
    exact ⟨_, rfl⟩
  · simp [c]
    exact ⟨_, rfl⟩
theorem cr_minS {X : Cx} (hc : X.calm = true) : CallR X (.builtin "min") rMinS := by
  intro pins s σ H xs us Q I r h
  obtain ⟨x, y, rfl, q⟩ := h
  obtain ⟨u1, u2, rfl, ⟨t, rfl⟩, ⟨t', rfl⟩⟩ := vals2 r
  refine call_min_two (pair_walk (I.ok.hd hc) (cmpS_lt (fun i => if i = 0 then x else y) (fun i v => sAt i v)) fun h' tk k => ⟨_, H, I.kept k, ?_, q⟩)
  unfold sMin sLt
  by_cases c : y.cps.toList < x.cps.toList
  · simp [c]
    exact ⟨_, rfl⟩
  · simp [c]
    exact ⟨_, rfl⟩
theorem sLt_irr (x : Str) : sLt x x = false := by
  unfold sLt
  exact decide_eq_false (List.lt_irrefl _)
theorem sLt_tr {x y z : Str} (h1 : sLt x y = true) (h2 : sLt y z = true) : sLt x z = true := by
  unfold sLt at *
  exact decide_eq_true (List.lt_trans (of_decide_eq_true h1) (of_decide_eq_true h2))
theorem str_eq {x y : Str} (h : x.cps.toList = y.cps.toList) : x = y := by
  cases x
  cases y
  exact congrArg _ (Array.toList_inj.mp h)
theorem sLt_tri (x y : Str) : sLt x y = true ∨ x = y ∨ sLt y x = true := by
  unfold sLt
  by_cases h1 : x.cps.toList < y.cps.toList
  · exact .inl (decide_eq_true h1)
  · by_cases h2 : y.cps.toList < x.cps.toList
    · exact .inr (.inr (decide_eq_true h2))
    · exact .inr (.inl (str_eq (List.le_antisymm (List.not_lt.mp h2) (List.not_lt.mp h1))))
theorem sLt_as {x y : Str} (h : sLt x y = true) : sLt y x = false := by
  cases e : sLt y x with
  | false => rfl
  | true =>
    have q := sLt_tr h e
    rw [sLt_irr] at q
    cases q
theorem sLt_asym {a b : Str} (h : sLt a b = true) : sLt b a = false := sLt_as h
/-- the order of texts is total, so a sorted arrangement is the only one -/
def leS (a b : Str) : Bool := !sLt b a
theorem leS_tr (a b c : Str) (h1 : leS a b = true) (h2 : leS b c = true) : leS a c = true := by
  unfold leS at *
  cases q : sLt c a with
  | false => rfl
  | true =>
    rcases sLt_tri b c with h | h | h
    · have := sLt_tr h q
      rw [this] at h1
      cases h1
    · subst h
      rw [q] at h1
      cases h1
    · rw [h] at h2
      cases h2
theorem leS_tot (a b : Str) : (leS a b || leS b a) = true := by
  unfold leS
  rcases sLt_tri a b with h | h | h
  · rw [sLt_as h]
    rfl
  · subst h
    rw [sLt_irr]
    rfl
  · rw [h, sLt_as h]
    rfl
theorem leS_anti {a b : Str} (h1 : leS a b = true) (h2 : leS b a = true) : a = b := by
  unfold leS at *
  rcases sLt_tri a b with h | h | h
  · rw [h] at h2
    cases h2
  · exact h
  · rw [h] at h1
    cases h1
def sortS (ks : List Str) : List Str := ks.mergeSort leS
theorem sortS_perm (ks : List Str) : (sortS ks).Perm ks := List.mergeSort_perm ks leS
theorem sortS_pw (ks : List Str) : (sortS ks).Pairwise (fun a b => leS a b = true) := List.pairwise_mergeSort leS_tr leS_tot ks
theorem rising_pw : ∀ (p : Str) (l : List Str), PyProof.Rows.risingS p l = true → (p :: l).Pairwise (fun a b => leS a b = true)
  | p, [], _ => by simp
  | p, x :: r, h => by
    unfold PyProof.Rows.risingS at h
    obtain ⟨h1, h2⟩ := Bool.and_eq_true_iff.mp h
    have ih := rising_pw x r h2
    have hpx : leS p x = true := by
      unfold leS sLt
      rw [PyProof.Rows.lt_meets]
      exact h1
    refine List.pairwise_cons.mpr ⟨fun y hy => ?_, ih⟩
    rcases List.mem_cons.mp hy with e | e
    · rw [e]
      exact hpx
    · exact leS_tr p x y hpx ((List.pairwise_cons.mp ih).1 y e)
theorem sorted_pw {l : List Str} (h : PyProof.Rows.sortedS l = true) : l.Pairwise (fun a b => leS a b = true) := by
  cases l with
  | nil => exact List.Pairwise.nil
  | cons x r => exact rising_pw x r h
theorem pw_only {a b : List Str} (hp : a.Perm b) (ha : a.Pairwise (fun a b => leS a b = true)) (hb : b.Pairwise (fun a b => leS a b = true)) : a = b :=
  List.Perm.eq_of_pairwise (le := fun a b => leS a b = true) (fun _ _ _ _ h1 h2 => leS_anti h1 h2) ha hb hp
theorem sorted_only {ks ys : List Str} (hp : ys.Perm ks) (h : PyProof.Rows.sortedS ys = true) : ys = sortS ks := pw_only (hp.trans (sortS_perm ks).symm) (sorted_pw h) (sortS_pw ks)
open PyProof.Rows SrtO Srt
def sv : Value → Str
  | .str x _ => x
  | _ => ""
def ltSv (v u : Value) : Bool := sLt (sv v) (sv u)
theorem swo_str : Swo ltSv := by
  refine ⟨fun x y h => sLt_asym h, fun x y z h1 h2 => ?_⟩
  have l1 : leS (sv x) (sv y) = true := by unfold leS; rw [show sLt (sv y) (sv x) = false from h1]; rfl
  have l2 : leS (sv y) (sv z) = true := by unfold leS; rw [show sLt (sv z) (sv y) = false from h2]; rfl
  have l3 := leS_tr _ _ _ l1 l2
  unfold leS at l3
  show sLt (sv z) (sv x) = false
  cases e : sLt (sv z) (sv x) with
  | false => rfl
  | true =>
    rw [e] at l3
    cases l3
theorem strs_mem : ∀ {vs : List Value} {ss : List Str}, StrsAre vs ss → ∀ v ∈ vs, ∃ x t, v = Value.str x t
  | _, _, .nil, v, h => absurd h (by simp)
  | _, _, .cons n t r, v, h => by
    rcases List.mem_cons.mp h with e | h
    · exact ⟨n, t, e⟩
    · exact strs_mem r v h
theorem strs_sv : ∀ {vs : List Value}, (∀ v ∈ vs, ∃ x t, v = Value.str x t) → StrsAre vs (vs.map sv)
  | [], _ => .nil
  | v :: vs, h => by
    obtain ⟨i, t, e⟩ := h v List.mem_cons_self
    subst e
    exact .cons i t (strs_sv fun u hu => h u (List.mem_cons_of_mem _ hu))
theorem sv_strs : ∀ {vs : List Value} {ns : List Str}, StrsAre vs ns → vs.map sv = ns
  | _, _, .nil => rfl
  | _, _, .cons n t r => congrArg (n :: ·) (sv_strs r)
section
variable {prog : Program} {w : World} {A : Around} {E : Value → Shared → Prop} {s : Shared}
theorem str_cmp {vs : List Value} {ns : List Str} (hI : StrsAre vs ns) : Cmp prog w A s oneType' (fun p => p.1 ∈ vs) (lt2 ltSv) := by
  intro p q hm hm'
  obtain ⟨a, t, e⟩ := strs_mem hI _ hm
  obtain ⟨b, u, e'⟩ := strs_mem hI _ hm'
  show wpAny (model prog w) A (keyLt' oneType' p.1 q.1) (fun r s' => s' = s ∧ r = ltSv p.1 q.1) (fun _ _ => False) s
  rw [e, e', keyLt'_oneType]
  exact oneLt_str ⟨rfl, rfl⟩
theorem strs_sortable {a : Addr} {vs : List Value} {ns : List Str} (hI : StrsAre vs ns) (h2 : 2 ≤ vs.length) : SortableO prog w A s a vs ltSv := by
  intro h' _
  refine ⟨oneType', fun Q E hq => ?_, str_cmp hI⟩
  match vs, hI, h2 with
  | v1 :: v2 :: rest, hI, _ =>
    rw [keyKind_strs hI]
    exact wpAny_pure hq
  | [], _, h => exact absurd h (by decide)
  | [v], _, h => exact absurd h (by simp)
theorem strs_out {vs out : List Value} {ns : List Str} (hI : StrsAre vs ns) (hs : Srtd ltSv out) (hp : out.Perm vs) : StrsAre out (sortS ns) := by
  have h1 : StrsAre out (out.map sv) := strs_sv fun v hv => strs_mem hI v (hp.mem_iff.mp hv)
  have h2 : (out.map sv).Perm ns := by
    have q := hp.map sv
    rw [sv_strs hI] at q
    exact q
  have h3 : (out.map sv).Pairwise (fun a b => leS a b = true) := List.pairwise_map.mpr (hs.imp fun {x y} h => by
    have h' : sLt (sv y) (sv x) = false := h
    unfold leS
    rw [h']
    rfl)
  have e : out.map sv = sortS ns := pw_only (h2.trans (sortS_perm ns).symm) h3 (sortS_pw ns)
  rwa [e] at h1
end
/-- sorted(list of texts) -/
def rSrtSA (K : Frag) : List V → Hp → VK → Prop := fun vs H Q => ∃ (a : Addr) (xs : List Str), vs = [V.ref a] ∧ SqL K H a (xs.map V.str) ∧
  ∀ p : Addr, H p = none → Q (.ref p) (upd H p (.lst ((sortS xs).map V.str)))
theorem cr_srtSA {X : Cx} : CallR X (.builtin "sorted") (rSrtSA X.K) := by
  intro pins s σ H vs us Q I r h
  obtain ⟨a, xs, rfl, hs, q⟩ := h
  obtain ⟨its, rv, hl, hz⟩ := I.list hs
  rw [Vals.ref1 r]
  have hlen0 := rv.length
  rw [List.length_map] at hlen0 hz
  refine sorted_strsAny hl.isList rv.strs (by rw [← hlen0]; exact hz) fun out ys h1 h2 h3 => ?_
  have e := sorted_only h2 h3
  subst e
  obtain ⟨ep, he'⟩ := sortedAll_at s.heap its out
  have hlen : ((sortS xs).map V.str).length ≤ sizeLine := by
    rw [List.length_map, h2.length_eq]
    exact hz
  exact ⟨.ref _, upd H (s.heap.objs.size + 1) (.lst ((sortS xs).map V.str)), I.laid (t' := s.toks) (fun _ _ => sortedAll_old) (Nat.le_succ _) ⟨hlen, out.toList, ep, vals_of_strs h1, he'⟩, rfl, q _ (I.hok.fresh (Nat.le_succ _))⟩
/-- sorted(dict of texts) -/
def rSrtDA : List V → Hp → VK → Prop := fun xs H Q => ∃ (a : Addr) (kvs : List (Key × V)) (ks : List Str), xs = [.ref a] ∧ Rd H a (.dK kvs) ∧ kvs.map (·.1) = ks.map Sum.inr ∧
    ∀ p, H p = none → Q (.ref p) (upd H p (.lst ((sortS ks).map V.str)))
theorem dict_keys {X : Cx} {ks : List Str} {vs : List (Key × Value)} {acc : Array Value} (hkeys : vs.map (·.1) = ks.map Sum.inr) (hl : vs.length = ks.length) (hacc1 : acc.size = vs.length)
    (hacc2 : ∀ (j : Nat) (v : Value), acc[j]? = some v → ∃ (k : Key) (x : Value), vs[j]? = some (k, x) ∧ (mixKind X.prog X.w).is k v = true) : StrsAre acc.toList ks := by
  have hal : acc.toList.length = ks.length := by rw [Array.length_toList, hacc1, hl]
  exact strs_at hal fun j v e => by
    obtain ⟨k, x, e1, e2⟩ := hacc2 j v (by rw [← Array.getElem?_toList]; exact e)
    have e3 : (vs.map (·.1))[j]? = some k := by rw [List.getElem?_map, e1]; all_goals rfl
    rw [hkeys, List.getElem?_map] at e3
    cases e4 : ks[j]? with
    | none => rw [e4] at e3; cases e3
    | some y =>
      rw [e4] at e3
      have e5 : Sum.inr y = k := Option.some.inj e3
      subst e5
      obtain ⟨t, ev⟩ := Value.isStrOf_shape (x := y) (v := v) e2
      exact ⟨y, t, rfl, ev⟩
theorem cr_srtDA {X : Cx} (hcalm : X.calm = true) : CallR X (.builtin "sorted") rSrtDA := by
  intro pins s σ H xs us Q I r q
  obtain ⟨a, kvs, ks, ex, hd, hks, q⟩ := q
  subst ex
  obtain ⟨u, eu, rx⟩ := vals1 r
  subst eu
  cases rx
  obtain ⟨z, lo, vs, rel, dd⟩ := dk_rd I.hok hd
  obtain ⟨ep, hat⟩ := dd.dictAt
  have hkeys : vs.map (·.1) = ks.map Sum.inr := rel.keys.symm.trans hks
  have hl : vs.length = ks.length := by
    have e := congrArg List.length hkeys
    rw [List.length_map, List.length_map] at e
    exact e
  have h16 : vs.length ≤ sizeLine := by rw [← rel.length]; exact z
  refine Calls.call_function_entry PyProof.Rows.kind_sorted PyProof.Rows.plain_sorted PyProof.Rows.entry_sorted (PyProof.Rows.args_sorted1 _) ?_
  unfold Builtin.«sorted»
  refine wpAny_bind (m := checkCount "sorted" 1 1 _) (wpAny_pure ?_)
  refine wpAny_bind (PySem.W.kdu_collect (A := X.A.in1) (PySem.W.kdl_dict (knd := mixKind X.prog X.w) (kvs := vs) (ep := ep) lo) (I.ok.hd hcalm) hat h16 fun h' tk acc hk hacc => ?_)
  have hS : StrsAre acc.toList ks := dict_keys (X := X) hkeys hl hacc.1 hacc.2
  have hal : acc.toList.length = ks.length := by rw [Array.length_toList, hacc.1, hl]
  have I1 : Inv X pins σ H { s with heap := h', toks := tk } := I.kept hk
  have hz2 : acc.toList.length ≤ sizeLine := by
    rw [hal, ← hl]
    exact h16
  refine wpAny_bind (wpAny_newList ?_ hz2)
  have hoL : (h'.push (seqObj "list" acc.toList.toArray 0)).get? h'.objs.size = some (seqObj "list" acc.toList.toArray 0) := Heap.get?_push_size _ rfl
  show wpAny _ _ _ _ _ { s with heap := h'.push (seqObj "list" acc.toList.toArray 0), toks := tk }
  refine wpAny_bind (wpAny_holding (wpAny_call_entry PyProof.Rows.slot_list_sort ⟨_, hoL, rfl⟩ PyProof.Rows.entry_list_sort
    (list_sort_ord (s := { s with heap := h'.push (seqObj "list" acc.toList.toArray 0), toks := tk }) swo_str hoL hz2 (fun h2 => strs_sortable hS h2) fun out hs hb => ⟨_, rfl, ?_⟩)
    (PyProof.Rows.args_list_sort _)))
  have g1 := strs_out hS hs hb.perm
  obtain ⟨e', he'⟩ := PyProof.Rows.sortedHeap_at (vs := acc.toList) (out := out.toArray) hoL
  have hlen : ((sortS ks).map V.str).length ≤ sizeLine := by
    rw [List.length_map, (sortS_perm ks).length_eq, ← hl]
    exact h16
  refine wpAny_pure ⟨_, rfl, .ref h'.objs.size, upd H h'.objs.size (.lst ((sortS ks).map V.str)), I1.laid (t' := tk) (fun b u e => ?_) (Nat.le_refl _)
    (show ObjOk X.prog X.w _ _ _ (.lst ((sortS ks).map V.str)) from ⟨hlen, out, e', vals_of_strs g1, he'⟩), rfl, q _ (I1.hok.fresh (Nat.le_refl _))⟩
  have hb : b < h'.objs.size := Heap.lt_size e
  rw [PyProof.Rows.sortedHeap_old (Nat.ne_of_lt hb) (by rw [size_push']; exact Nat.lt_succ_of_lt hb)]
  exact Heap.get?_push_of_some _ e
/-- sorted(dict of texts, reverse=True) -/
def rSrtDR : List V → List V → Hp → VK → Prop := fun xs zs H Q => ∃ (a : Addr) (kvs : List (Key × V)) (ks : List Str), xs = [.ref a] ∧ zs = [.bl true] ∧ Rd H a (.dK kvs) ∧ kvs.map (·.1) = ks.map Sum.inr ∧
    ∀ p, H p = none → Q (.ref p) (upd H p (.lst ((sortS ks).reverse.map V.str)))
theorem strs_rev : ∀ {vs : List Value} {ss : List Str}, StrsAre vs ss → StrsAre vs.reverse ss.reverse := fun {vs ss} h => by
  have h1 : StrsAre vs.reverse (vs.reverse.map sv) := strs_sv fun v hv => strs_mem h v (List.mem_reverse.mp hv)
  rwa [List.map_reverse, sv_strs h] at h1
theorem cr_srtDR {X : Cx} (hcalm : X.calm = true) : CallRK X (.builtin "sorted") [Str.ofString "reverse"] rSrtDR := by
  intro pins s σ H xs zs us ws Q I r rz q
  obtain ⟨a, kvs, ks, ex, ez, hd, hks, q⟩ := q
  subst ex
  subst ez
  obtain ⟨u, eu, rx⟩ := vals1 r
  subst eu
  cases rx
  obtain ⟨w1, rfl, e1⟩ := vals1 rz
  obtain rfl : w1 = Value.bool true := e1
  obtain ⟨z, lo, vs, rel, dd⟩ := dk_rd I.hok hd
  obtain ⟨ep, hat⟩ := dd.dictAt
  have hkeys : vs.map (·.1) = ks.map Sum.inr := rel.keys.symm.trans hks
  have hl : vs.length = ks.length := by
    have e := congrArg List.length hkeys
    rw [List.length_map, List.length_map] at e
    exact e
  have h16 : vs.length ≤ sizeLine := by rw [← rel.length]; exact z
  refine call_function_entry_kw PyProof.Rows.kind_sorted PyProof.Rows.plain_sorted PyProof.Rows.entry_sorted (PyProof.Rows.args_sorted_rev _ _) ?_
  unfold Builtin.«sorted»
  refine wpAny_bind (m := checkCount "sorted" 1 1 _) (wpAny_pure ?_)
  refine wpAny_bind (PySem.W.kdu_collect (A := X.A.in1) (PySem.W.kdl_dict (knd := mixKind X.prog X.w) (kvs := vs) (ep := ep) lo) (I.ok.hd hcalm) hat h16 fun h' tk acc hk hacc => ?_)
  have hS : StrsAre acc.toList ks := dict_keys (X := X) hkeys hl hacc.1 hacc.2
  have hal : acc.toList.length = ks.length := by rw [Array.length_toList, hacc.1, hl]
  have I1 : Inv X pins σ H { s with heap := h', toks := tk } := I.kept hk
  have hz2 : acc.toList.length ≤ sizeLine := by
    rw [hal, ← hl]
    exact h16
  refine wpAny_bind (wpAny_newList ?_ hz2)
  have hoL : (h'.push (seqObj "list" acc.toList.toArray 0)).get? h'.objs.size = some (seqObj "list" acc.toList.toArray 0) := Heap.get?_push_size _ rfl
  show wpAny _ _ _ _ _ { s with heap := h'.push (seqObj "list" acc.toList.toArray 0), toks := tk }
  refine wpAny_bind (wpAny_holding (wpAny_call_entry_kw PyProof.Rows.slot_list_sort ⟨_, hoL, rfl⟩ PyProof.Rows.entry_list_sort
    (SrtR.list_sort_ordR (b := true) (s := { s with heap := h'.push (seqObj "list" acc.toList.toArray 0), toks := tk }) swo_str hoL hz2 (fun h2 => strs_sortable hS h2) fun out hs hb => ⟨_, rfl, ?_⟩)
    (PyProof.Rows.args_list_sort_rev _ _)))
  have g1 := strs_rev (strs_out hS hs (hb.perm.trans (List.reverse_perm _)))
  obtain ⟨e', he'⟩ := PyProof.Rows.sortedHeap_at (vs := acc.toList) (out := out.toArray.reverse) hoL
  have hlen : ((sortS ks).reverse.map V.str).length ≤ sizeLine := by
    rw [List.length_map, List.length_reverse, (sortS_perm ks).length_eq, ← hl]
    exact h16
  have e0 : out.reverse.toArray = out.toArray.reverse := by simp
  refine wpAny_pure ⟨_, rfl, .ref h'.objs.size, upd H h'.objs.size (.lst ((sortS ks).reverse.map V.str)), I1.laid (t' := tk) (fun b u e => ?_) (Nat.le_refl _)
    (show ObjOk X.prog X.w _ _ _ (.lst ((sortS ks).reverse.map V.str)) from ⟨hlen, out.reverse, e', vals_of_strs g1, by rw [e0]; exact he'⟩), rfl, q _ (I1.hok.fresh (Nat.le_refl _))⟩
  have hb : b < h'.objs.size := Heap.lt_size e
  rw [PyProof.Rows.sortedHeap_old (Nat.ne_of_lt hb) (by rw [size_push']; exact Nat.lt_succ_of_lt hb)]
  exact Heap.get?_push_of_some _ e
def sortI (ks : List Int) : List Int := ks.mergeSort fun a b => decide (a ≤ b)
theorem sortI_perm (ks : List Int) : (sortI ks).Perm ks := List.mergeSort_perm ks _
theorem sortI_pw (ks : List Int) : (sortI ks).Pairwise (· ≤ ·) := by
  have h := List.pairwise_mergeSort (le := fun a b : Int => decide (a ≤ b)) (fun a b c h1 h2 => decide_eq_true (Int.le_trans (of_decide_eq_true h1) (of_decide_eq_true h2))) (fun a b => by
    rcases Int.le_total a b with q | q
    · rw [decide_eq_true q, Bool.true_or]
    · rw [decide_eq_true q, Bool.or_true]) ks
  exact h.imp fun q => of_decide_eq_true q
theorem sortedI_only {ks ys : List Int} (hp : ys.Perm ks) (h : ys.Pairwise (· ≤ ·)) : ys = sortI ks :=
  List.Perm.eq_of_pairwise (le := (· ≤ ·)) (fun _ _ _ _ h1 h2 => Int.le_antisymm h1 h2) h (sortI_pw ks) (hp.trans (sortI_perm ks).symm)
end Q.So
namespace Q
open PySem PySem.Spec PyProof.Rows L2 Evl
open So (sMax sMin sortS sortI)
/-! built-in functions -/
abbrev FB := List W → Mu → Po → Prop
def rB (K : Frag) (f : FB) : List V → Hp → VK → Prop := fun vs H Q => ∃ ws μ P, RwAll K H μ vs ws ∧ Mem K H μ ∧ f ws μ P ∧ VL K Q μ H P
theorem callR_imp {X : Cx} {c : Value} {r r' : List V → Hp → VK → Prop} (h : CallR X c r) (k : ∀ vs H Q, r' vs H Q → r vs H Q) : CallR X c r' := fun pins s σ H xs us Q I rx q => h pins s σ H xs us Q I rx (k xs H Q q)
theorem callR_or {X : Cx} {c : Value} {r r' : List V → Hp → VK → Prop} (h : CallR X c r) (h' : CallR X c r') : CallR X c (fun vs H Q => r vs H Q ∨ r' vs H Q) := fun pins s σ H xs us Q I rx q => q.elim (h pins s σ H xs us Q I rx) (h' pins s σ H xs us Q I rx)
@[reducible] def eB (f : FB) (a : FA) : FE := fun ρ μ P X => a ρ μ (fun ws μ1 => f ws μ1 P) X
theorem tB_of {K : Frag} {E : L2.St → XK} {f : FB} {fa : FA} {r : List V → Hp → VK → Prop} (k : ∀ vs H Q, rB K f vs H Q → r vs H Q) {σ : L2.St} {H : Hp} {Q : VK} (h : tE K E (eB f fa) σ H Q) : tCB r (tA K E fa) σ H Q := by
  obtain ⟨ρ, μ, P, XX, hh, hm, hf, hv, hx⟩ := h
  exact ⟨ρ, μ, _, XX, hh, hm, hf, fun ws μ1 vs H1 p1 e1 m1 r1 => k vs H1 Q ⟨ws, μ1, P, r1, m1, p1, hv.stp e1⟩, hx⟩
section
variable {X : Cx} {E : L2.St → XK} {x : Str} {p pos : Pos} {e : Expr} {es : List Expr} {fa : FA} {id T : String} {f : FB}
theorem qe_b (hc : CallR X (.builtin id) (rB X.K f)) (hg : Gl X x) (hm : X.mg x = none) (hv : bootBuiltins x = some (.builtin id)) (ha : QA X E (e :: es) fa) (hn : x ≠ "__name__" := by decide) (hdb : (x == ("__debug__" : Str)) = false := by decide)
    (he : starEach (e :: es) X.env = (false, eval e X.env) :: starEach es X.env := by rfl) (hpl : (backTo pos (starEach es X.env)).any (·.1) = false := by rfl) : QE X E (.Call (.Name x p) (e :: es) [] pos) (eB f fa) :=
  ⟨(pe_callB hc hg hm hv ha.pa hn hdb he hpl).qimp fun σ H Q h => tB_of (fun _ _ _ h => h) h⟩
theorem qe_ty (hc : CallR X (.type T) (rB X.K f)) (hg : Gl X x) (hm : X.mg x = none) (hv : bootBuiltins x = some (.type T)) (ha : QA X E (e :: es) fa) (hn : x ≠ "__name__" := by decide) (hdb : (x == ("__debug__" : Str)) = false := by decide)
    (he : starEach (e :: es) X.env = (false, eval e X.env) :: starEach es X.env := by rfl) (hpl : (backTo pos (starEach es X.env)).any (·.1) = false := by rfl) : QE X E (.Call (.Name x p) (e :: es) [] pos) (eB f fa) :=
  ⟨(pe_callTy hc hg hm hv ha.pa hn hdb he hpl).qimp fun σ H Q h => tB_of (fun _ _ _ h => h) h⟩
end
section
variable {X : Cx}
/-! len -/
@[reducible] def bLen : FB := fun ws μ P => match ws with
  | [.str z] => z.length ≤ 16000000 ∧ P (.int (z.length : Int)) μ
  | [.tup us] => P (.int (us.length : Int)) μ
  | [w] => (match rdL μ w with
    | some us => P (.int (us.length : Int)) μ
    | none => (match w with
      | .ref a => (match μ a with
        | some (.dk kvs) => P (.int (kvs.length : Int)) μ
        | _ => False)
      | _ => False))
  | _ => False
theorem cb_len : CallR X (.builtin "len") (rB X.K bLen) := callR_imp (callR_or call_len call_lenD) fun vs H Q h => by
  obtain ⟨ws, μ, P, r, m, h, l⟩ := h
  unfold bLen at h
  split at h
  · obtain ⟨v, rfl, r1⟩ := r.one
    exact .inl ⟨v, _, rfl, by rw [rw_str r1]; exact ⟨big h.1, rfl⟩, l.now h.2 m (.int _)⟩
  · obtain ⟨v, rfl, r1⟩ := r.one
    cases r1 with
    | tup q hs => exact .inl ⟨_, _, rfl, .inr ⟨_, tup_sq q, hs.len.symm⟩, l.now h m (.int _)⟩
  · obtain ⟨v, rfl, r1⟩ := r.one
    split at h
    · rename_i us eu
      obtain ⟨a, vs, rfl, q, hs⟩ := rdL_at eu r1 m
      exact .inl ⟨_, _, rfl, .inl ⟨_, q, hs.len.symm⟩, l.now h m (.int _)⟩
    · split at h
      · split at h
        · rename_i kvs ea
          cases r1
          obtain ⟨kv, h1, h2⟩ := m _ _ ea
          exact .inr ⟨_, kv, rfl, h1, by rw [h2.len]; exact l.now h m (.int _)⟩
        · exact h.elim
      · exact h.elim
  · exact h.elim
/-! int, ord, abs, str, max, min -/
@[reducible] def bInt : FB := fun ws μ P => match ws with
  | [.int i] => P (.int i) μ
  | [.bl b] => P (.int (if b then 1 else 0)) μ
  | _ => False
theorem cb_int : CallR X (.type "int") (rB X.K bInt) := callR_imp call_int1 fun vs H Q h => by
  obtain ⟨ws, μ, P, r, m, h, l⟩ := h
  unfold bInt at h
  split at h
  · obtain ⟨v, rfl, r1⟩ := r.one
    exact .inl ⟨_, by rw [rw_int r1], l.now h m (.int _)⟩
  · obtain ⟨v, rfl, r1⟩ := r.one
    exact .inr ⟨_, by rw [rw_bl r1], l.now h m (.int _)⟩
  · exact h.elim
@[reducible] def bOrd : FB := fun ws μ P => match ws with
  | [.str x] => x.length = 1 ∧ P (.int (x.cps.getD 0 0 : Nat)) μ
  | _ => False
theorem cb_ord : CallR X (.builtin "ord") (rB X.K bOrd) := callR_imp call_ord fun vs H Q h => by
  obtain ⟨ws, μ, P, r, m, h, l⟩ := h
  unfold bOrd at h
  split at h
  · obtain ⟨v, rfl, r1⟩ := r.one
    exact ⟨_, by rw [rw_str r1], h.1, l.now h.2 m (.int _)⟩
  · exact h.elim
theorem max_is (i j : Int) : (if j > i then j else i) = max i j := by
  split <;> omega
@[reducible] def bMax : FB := fun ws μ P => match ws with
  | [.int i, .int j] => P (.int (max i j)) μ
  | [.str i, .str j] => P (.str (sMax i j)) μ
  | [w] => ∃ ns : List Int, rdL μ w = some (ns.map W.int) ∧ 0 < ns.length ∧ ∀ m, m ∈ ns → (∀ y, y ∈ ns → y ≤ m) → P (.int m) μ
  | _ => False
theorem cb_max (hc : X.calm = true) : CallR X (.builtin "max") (rB X.K bMax) := callR_imp (callR_or (call_max2 hc) (callR_or (So.cr_maxS hc) (cr_max hc))) fun vs H Q h => by
  obtain ⟨ws, μ, P, r, m, h, l⟩ := h
  unfold bMax at h
  split at h
  · obtain ⟨v, w, rfl, r1, r2⟩ := r.two
    exact .inl ⟨_, _, by rw [rw_int r1, rw_int r2], by rw [max_is]; exact l.now h m (.int _)⟩
  · obtain ⟨v, w, rfl, r1, r2⟩ := r.two
    exact .inr (.inl ⟨_, _, by rw [rw_str r1, rw_str r2], l.now h m (.str _)⟩)
  · obtain ⟨v, rfl, r1⟩ := r.one
    obtain ⟨ns, en, h0, h⟩ := h
    obtain ⟨a, vs, rfl, q, hs⟩ := rdL_at en r1 m
    have ev := ints_of hs
    subst ev
    exact .inr (.inr ⟨a, ns, rfl, q, h0, fun k k1 k2 => l.now (h k k1 k2) m (.int _)⟩)
  · exact h.elim
/-! tuple, list, dict -/
@[reducible] def rdA (μ : Mu) (w : W) : Option (List W) := match w with
  | .tup us => some us
  | w => rdL μ w
theorem rdA_at {K : Frag} {H : Hp} {μ : Mu} {v : V} {w : W} {ws : List W} (h : rdA μ w = some ws) (r : Rw K H μ v w) (m : Mem K H μ) : ∃ a vs, v = .ref a ∧ (SqL K H a vs ∨ SqT K H a vs) ∧ RwAll K H μ vs ws := by
  unfold rdA at h
  split at h
  · cases h
    cases r with
    | tup q hs => exact ⟨_, _, rfl, .inr (tup_sq q), hs⟩
  · obtain ⟨a, vs, e, q, hs⟩ := rdL_at h r m
    exact ⟨a, vs, e, .inl q, hs⟩
@[reducible] def bLsR : FB := fun ws μ P => match ws with
  | [w] => (match rdA μ w with
    | some us => ∀ p, μ p = none → P (.ref p) (mset μ p (.ls us))
    | none => False)
  | _ => False
theorem cb_lsR : CallR X (.type "list") (rB X.K bLsR) := callR_imp call_list_of fun vs H Q h => by
  obtain ⟨ws, μ, P, r, m, h, l⟩ := h
  unfold bLsR at h
  split at h
  · obtain ⟨v, rfl, r1⟩ := r.one
    split at h
    · rename_i us eu
      obtain ⟨a, vs, rfl, q, hs⟩ := rdA_at eu r1 m
      exact ⟨a, vs, rfl, q, fun p hp => l.ls h m hs hp⟩
    · exact h.elim
  · exact h.elim
theorem VL.dk {K : Frag} {Q : VK} {μ : Mu} {H : Hp} {P : Po} (l : VL K Q μ H P) {kvs : List (Key × W)} {kv : List (Key × V)} (p : ∀ p, μ p = none → P (.ref p) (mset μ p (.dk kvs))) (m : Mem K H μ) (r : RwP K H μ kv kvs) {a : Addr} (ha : H a = none) : Q (.ref a) (upd H a (.dK kv)) := l _ _ _ _ (p a (m.free ha)) (Stp.newT ha) (m.put (Stp.newT ha) ⟨kv, upd_same, r.stp (Stp.newT ha)⟩) (.ref a)
/-! sorted, of texts, of a dict with text keys, with int keys -/
end
/-! isinstance of a built-in type -/
inductive T7 where
  | non | bl | int | str | tup | lst | dct
deriving DecidableEq
def T7.nm : T7 → String
  | .non => "NoneType"
  | .bl => "bool"
  | .int => "int"
  | .str => "str"
  | .tup => "tuple"
  | .lst => "list"
  | .dct => "dict"
@[reducible] def T7.is : T7 → T7 → Bool
  | .bl, .int => true
  | .non, .non => true
  | .bl, .bl => true
  | .int, .int => true
  | .str, .str => true
  | .tup, .tup => true
  | .lst, .lst => true
  | .dct, .dct => true
  | _, _ => false
theorem T7.kit (a b : T7) : kitB a.nm b.nm = some (a.is b) := by
  cases a <;> cases b <;> decide +kernel
@[reducible] def tyW (μ : Mu) (w : W) : Option T7 := match w with
  | .non => some .non
  | .bl _ => some .bl
  | .int _ => some .int
  | .str _ => some .str
  | .tup _ => some .tup
  | .lst _ => some .lst
  | .rol _ => some .lst
  | .ref a => (match μ a with
    | some (.ls _) => some .lst
    | some (.dk _) => some .dct
    | some (.rk _) => some .dct
    | some (.dt _) => some .dct
    | _ => none)
  | _ => none
theorem tyx_at {K : Frag} {H : Hp} {μ : Mu} {v : V} {w : W} {t : T7} (h : tyW μ w = some t) (r : Rw K H μ v w) (m : Mem K H μ) : TyX K H v (.type t.nm) := by
  cases r with
  | non => cases h; exact .base .non
  | bl b => cases h; exact .base (.bl b)
  | int i => cases h; exact .base (.int i)
  | str x => cases h; exact .base (.str x)
  | tup q _ =>
    cases h
    rcases q with q | ⟨o, its, n, e, c, _⟩
    · exact .base (.tup q.1)
    · exact .kTuple e c
  | lst q _ =>
    cases h
    exact .base (.lst q.1)
  | rol q _ =>
    cases h
    rcases q.1 with q | ⟨o, q⟩
    · exact .base (.lst q)
    · exact .base (.frz q)
  | ref a =>
    unfold tyW at h
    dsimp only at h
    split at h
    · rename_i e
      cases h
      obtain ⟨vs, h1, _⟩ := m _ _ e
      exact .base (.lst h1)
    · rename_i e
      cases h
      obtain ⟨vs, h1, _⟩ := m _ _ e
      exact .base (.dK h1)
    · rename_i e
      cases h
      obtain ⟨o, vs, h1, _⟩ := m _ _ e
      exact .fDict h1
    · rename_i e
      cases h
      obtain ⟨vs, h1, _⟩ := m _ _ e
      exact .base (.dT h1)
    · cases h
  | _ => cases h
@[reducible] def eIsi (t : T7) (e : FE) : FE := fun ρ μ P X => e ρ μ (fun w μ1 => match tyW μ1 w with
  | some s => P (.bl (s.is t)) μ1
  | none => False) X
theorem qe_isi {X : Cx} {E : L2.St → XK} {x : Str} {p p2 pos : Pos} {e : Expr} {fe : FE} (t : T7) (hg : Gl X "isinstance") (hm : X.mg "isinstance" = none) (hg2 : Gl X x) (hm2 : X.mg x = none) (hv2 : bootBuiltins x = some (.type t.nm)) (he : QE X E e fe)
    (hst : starEach [e, .Name x p2] X.env = (false, eval e X.env) :: starEach [.Name x p2] X.env := by rfl) (hpl : (backTo pos (starEach [.Name x p2] X.env)).any (·.1) = false := by rfl)
    (hn2 : x ≠ "__name__" := by decide) (hd2 : (x == ("__debug__" : Str)) = false := by decide) : QE X E (.Call (.Name "isinstance" p) [e, .Name x p2] [] pos) (eIsi t fe) :=
  ⟨(pe_callB call_isi hg hm (by decide +kernel) (pa_cons he.pe (pa_cons (pe_bltn (v := V.ty t.nm) hg2 hm2 hv2 rfl hn2 hd2) pa_nil) hst) (by decide) (by decide) hst hpl).qimp fun σ H Q h => by
  obtain ⟨ρ, μ, P, XX, hh, hm, hf, hv, hx⟩ := h
  refine ⟨ρ, μ, _, XX, hh, hm, hf, fun w μ1 v H1 p1 e1 m1 r1 => ?_, hx⟩
  dsimp only at p1
  split at p1
  · rename_i s es
    exact ⟨v, .ty t.nm, _, _, s.is t, rfl, .ty t.nm, tyx_at es r1 m1, kit_ty (T7.kit s t), hv _ μ1 _ H1 p1 e1 m1 (.bl _)⟩
  · exact p1.elim⟩
end Q
namespace Q
open PySem PySem.Spec PyProof.Rows L2 Evl
/-! methods of built-in types -/
abbrev FM := W → List W → Mu → Po → Prop
def rM (K : Frag) (f : FM) : V → List V → Hp → VK → Prop := fun x vs H Q => ∃ w ws μ P, Rw K H μ x w ∧ RwAll K H μ vs ws ∧ Mem K H μ ∧ f w ws μ P ∧ VL K Q μ H P
theorem mtR_imp {X : Cx} {id : String} {r r' : V → List V → Hp → VK → Prop} (h : MtR X id r) (k : ∀ x vs H Q, r' x vs H Q → r x vs H Q) : MtR X id r' := fun pins s σ H x xs v us Q I rx rv q => h pins s σ H x xs v us Q I rx rv (k x xs H Q q)
@[reducible] def tyL : Mu → W → Prop := fun μ w => (rdL μ w).isSome = true
@[reducible] def tyD : Mu → W → Prop := fun μ w => match w with
  | .ref a => (match μ a with
    | some (.dk _) => True
    | _ => False)
  | _ => False
def TyM (K : Frag) (T : String) (ty : Mu → W → Prop) : Prop := ∀ H μ v w, Rw K H μ v w → Mem K H μ → ty μ w → tyV K T v H
theorem tym_l {K : Frag} : TyM K "list" tyL := fun H μ v w r m h => by
  obtain ⟨us, e⟩ := Option.isSome_iff_exists.mp h
  obtain ⟨a, vs, rfl, q, _⟩ := rdL_at e r m
  exact .inl ⟨rfl, vs, q⟩
@[reducible] def eBm (ty : Mu → W → Prop) (f : FM) (o : FE) (a : FA) : FE := fun ρ μ P X => o ρ μ (fun w μ1 => ty μ1 w ∧ a ρ μ1 (fun ws μ2 => f w ws μ2 P) X) X
section
variable {X : Cx} {E : L2.St → XK} {o e : Expr} {es : List Expr} {fo : FE} {fa : FA} {name : Str} {apos cpos : Pos} {T id : String} {f : FM} {ty : Mu → W → Prop}
theorem qe_bm (tm : TyM X.K T ty) (pa : PlainAttrs T) (slot : Slot T name id) (hty : typeOf (.builtin id) = pure (.type "method_descriptor")) (hm : MtR X id (rM X.K f)) (ho : QE X E o fo) (ha : QA X E (e :: es) fa)
    (hbase : attributeBase o name X.env (eval o X.env) = eval o X.env := by rfl)
    (hfew : ((backTo cpos (starEach (e :: es) X.env)).all (fun x => !x.1) && (backToKw cpos (keywordEach [] X.env)).all (fun x => x.1.isSome)
      && decide ((e :: es).length + ([] : List Keyword).length + (if ([] : List Keyword).isEmpty then 0 else 1) < 30)) = true := by rfl)
    (hline : (apos.endLine == cpos.line) = true := by rfl) (hs : starEach (e :: es) X.env = (false, eval e X.env) :: starEach es X.env := by rfl) (hplain : (backTo cpos (starEach es X.env)).any (·.1) = false := by rfl) :
    QE X E (.Call (.Attribute o name apos) (e :: es) [] cpos) (eBm ty f fo fa) := ⟨(pe_bm pa slot hty hm ho.pe ha.pa hbase hfew hline hs hplain).qimp fun σ H Q h => by
  obtain ⟨ρ, μ, P, XX, hh, hm, hf, hv, hx⟩ := h
  exact ⟨ρ, μ, _, XX, hh, hm, hf, fun w μ1 v H1 p1 e1 m1 r1 => ⟨tm H1 μ1 v w r1 m1 p1.1, ρ, μ1, _, XX, hh.stp e1, m1, p1.2, fun ws μ2 vs H2 p2 e2 m2 r2 => ⟨w, ws, μ2, P, r1.stp e2, r2, m2, p2, hv.stp (e1.trans e2)⟩, hx.stp e1⟩, hx⟩⟩
end
section
variable {X : Cx}
/-! lists -/
@[reducible] def mApp : FM := fun w ws μ P => match w with
  | .ref a => (match μ a with
    | some (.ls us) => (match ws with
      | [x] => us.length < 16000000 ∧ P .non (mset μ a (.ls (us ++ [x])))
      | _ => False)
    | _ => False)
  | _ => False
theorem mU_app : MtR X "list.append" (rM X.K mApp) := mtR_imp mt_append fun x vs H Q h => by
  obtain ⟨w, ws, μ, P, r, rs, m, h, l⟩ := h
  unfold mApp at h
  split at h
  · split at h
    · split at h
      · rename_i us ea _ y
        cases r
        obtain ⟨v, rfl, r1⟩ := rs.one
        obtain ⟨xs, h1, h2⟩ := m _ _ ea
        have st : Stp μ H (mset μ _ (.ls (us ++ [y]))) (upd H _ (.lst (xs ++ [v]))) := Stp.put ea (nf_lst h1)
        exact ⟨_, xs, v, rfl, rfl, h1, by rw [h2.len]; exact biglt h.1, l _ _ _ _ h.2 st (m.put st ⟨_, upd_same, (h2.app (.cons r1 .nil)).stp st⟩) .non⟩
      · exact h.elim
    · exact h.elim
  · exact h.elim
/-! texts -/
end
/-! ### dicts -/
section
variable {X : Cx} {E : L2.St → XK} {o e f : Expr} {apos cpos pos pos' : Pos} {fo fa fb : FE}
/-! a[i] = v, d[k] = v -/
@[reducible] def putIx (x y w : W) (μ : Mu) (k : Mu → Prop) : Prop := match x with
  | .ref a => (match μ a with
    | some (.ls ws) => (match y with
      | .int i => (match ixN ws.length i with
        | some j => k (mset μ a (.ls (ws.set j w)))
        | none => False)
      | _ => False)
    | some (.dk kvs) => (match kO y with
      | some q => kvs.length < 16000000 ∧ k (mset μ a (.dk (putW kvs q w)))
      | none => False)
    | _ => False)
  | _ => False
@[reducible] def sPut (o i e : FE) : FS := fun ρ μ N => e ρ μ (fun w μ1 => o ρ μ1 (fun x μ2 => i ρ μ2 (fun y μ3 => putIx x y w μ3 fun μ4 => N.nx ρ μ4) (N.ex ρ)) (N.ex ρ)) (N.ex ρ)
theorem put_at {K : Frag} {H : Hp} {μ : Mu} {vx vy vw : V} {x y w : W} {k : Mu → Prop} {Q : Hp → Prop} (h : putIx x y w μ k) (rx : Rw K H μ vx x) (ry : Rw K H μ vy y) (rw' : Rw K H μ vw w) (m : Mem K H μ) (q : ∀ μ' H', k μ' → Stp μ H μ' H' → Mem K H' μ' → Q H') : rSetL vx vy vw H Q ∨ rSetD vx vy vw H Q := by
  unfold putIx at h
  split at h
  · split at h
    · rename_i us ea
      cases rx
      obtain ⟨xs, h1, h2⟩ := m _ _ ea
      split at h
      · split at h
        · rename_i i _ j ej
          have ey := rw_int ry
          subst ey
          have st : Stp μ H (mset μ _ (.ls (us.set j w))) (upd H _ (.lst (xs.set j vw))) := Stp.put ea (nf_lst h1)
          exact .inl ⟨_, xs, i, j, rfl, rfl, h1, by rw [h2.len]; exact ej, q _ _ h st (m.put st ⟨_, upd_same, (RwAll.set rw' j h2).stp st⟩)⟩
        · exact h.elim
      · exact h.elim
    · rename_i kvs ea
      cases rx
      obtain ⟨kv, h1, h2⟩ := m _ _ ea
      split at h
      · rename_i q1 eq1
        have ey := kO_rw ry eq1
        subst ey
        have st : Stp μ H (mset μ _ (.dk (putW kvs q1 w))) (upd H _ (.dK (putK kv q1 vw))) := Stp.put ea (nf_dk h1)
        exact .inr ⟨_, _, rfl, .inl ⟨kv, q1, h1, rfl, by rw [h2.len]; exact biglt h.1, rfl⟩, q _ _ h.2 st (m.put st ⟨_, upd_same, (rwp_put rw' h2).stp st⟩)⟩
      · exact h.elim
    · exact h.elim
  · exact h.elim
theorem pset_or {t t' : TSet} (h : PSet X t) (h' : PSet X t') : PSet X (fun o i v H Q => t o i v H Q ∨ t' o i v H Q) := fun pins s σ H o i v ov iv u Q I ro ri rv q => q.elim (h pins s σ H o i v ov iv u Q I ro ri rv) (h' pins s σ H o i v ov iv u Q I ro ri rv)
theorem qs_put {i value : Expr} {fi fe : FE} (hu : X.A.units + 1 < cLine) (ho : QE X E o fo) (hi : QE X E i fi) (he : QE X E value fe) (hs : swapsWithSole [.Subscript o i pos'] value pos.line X.env = pure false := by rfl) (hw : swappedStores [.Subscript o i pos'] value X.env = pure none := by rfl)
    (h1 : (assignEach [.Subscript o i pos'] X.env).map (·.2) = [assign (.Subscript o i pos') X.env] := by rfl)
    (ha : ∀ v, assign (.Subscript o i pos') X.env v = (do
      let ov ← holding [v] (eval o X.env)
      let iv ← holding [v, ov] (eval i X.env)
      standAt pos'
      holding [v, ov, iv] (setItem ov iv v)
      release [v, ov, iv] []) := by intro _; rfl) : QS X E (.Assign [.Subscript o i pos'] value pos) (sPut fo fi fe) := ⟨(ps_asg he.pe (pg_sub ho.pe hi.pe (pset_or set_list (set_dict hu)) ha) hs hw h1).qimp fun D σ H h => by
  obtain ⟨ρ, μ, N, hh, hm, hf, l⟩ := h
  refine ⟨ρ, μ, _, _, hh, hm, hf, fun w μ1 v H1 p1 e1 m1 r1 => ⟨ρ, μ1, _, _, hh.stp e1, m1, p1, fun x μ2 u H2 p2 e2 m2 r2 => ⟨ρ, μ2, _, _, hh.stp (e1.trans e2), m2, p2, fun y μ3 z H3 p3 e3 m3 r3 => ?_, (l.stp (e1.trans e2)).xl (hh.stp (e1.trans e2))⟩, (l.stp e1).xl (hh.stp e1)⟩, l.xl hh⟩
  have e13 := (e1.trans e2).trans e3
  exact put_at p3 (r2.stp e3) r3 (r1.stp (e2.trans e3)) m3 fun μ' H' k e m => l.nx ρ μ' σ H' k (e13.trans e) m (hh.stp (e13.trans e))⟩
/-! del a[i], del d[k] -/
/-! displays -/
abbrev FP := Rho → Mu → (List (Key × W) → Mu → Prop) → Xo → Prop
@[reducible] def dNil : FP := fun _ μ P _ => P [] μ
@[reducible] def dCons (k v : FE) (r : FP) : FP := fun ρ μ P X => k ρ μ (fun y μ1 => v ρ μ1 (fun z μ2 => r ρ μ2 (fun kvs μ3 => match kO y with
  | some q => P ((q, z) :: kvs) μ3
  | none => False) X) X) X
def mergeW (kvs more : List (Key × W)) : List (Key × W) := more.foldl (fun acc kv => putW acc kv.1 kv.2) kvs
theorem rwp_merge {K : Frag} {H : Hp} {μ : Mu} : ∀ {more : List (Key × V)} {morew : List (Key × W)} {kv : List (Key × V)} {kw : List (Key × W)}, RwP K H μ more morew → RwP K H μ kv kw → RwP K H μ (mergeK kv more) (mergeW kw morew)
  | _, _, _, _, .nil, h => h
  | _, _, kv, kw, @RwP.cons _ _ _ _ k v vs w ws h hs, g => by
    show RwP K H μ (mergeK (putK kv k v) vs) (mergeW (putW kw k w) ws)
    exact rwp_merge hs (rwp_put h g)
structure QP (X : Cx) (E : L2.St → XK) (pos : Pos) (ks : List (Option Expr)) (vs : List Expr) (n : Nat) (f : FP) : Prop where
  pp : ∃ trs, PPs X pos ks vs trs ∧ ∀ σ H Q ρ μ P XX, Holds X.K H μ σ ρ → Mem X.K H μ → f ρ μ P XX → XL X.K (E σ) μ H XX → (∀ ps μ' H', (∃ kv kvs, ps = kv.map (fun q : Key × V => (kV q.1, q.2)) ∧ kv.length ≤ n ∧ RwP X.K H' μ' kv kvs ∧ P kvs μ') → Stp μ H μ' H' → Mem X.K H' μ' → Q ps H') → tPairs trs σ H Q
theorem qp_nil : QP X E pos [] [] 0 dNil := ⟨[], pps_nil, fun σ H Q ρ μ P XX hh hm hf hx q => q [] μ H ⟨[], [], rfl, Nat.le_refl _, .nil, hf⟩ (Stp.refl μ H) hm⟩
theorem qp_cons {k v : Expr} {ks : List (Option Expr)} {vs : List Expr} {fk fv : FE} {n : Nat} {g : FP} (hk : QE X E k fk) (hv : QE X E v fv) (hr : QP X E pos ks vs n g) : QP X E pos (some k :: ks) (v :: vs) (n + 1) (dCons fk fv g) := by
  obtain ⟨trs, h1, h2⟩ := hr.pp
  refine ⟨_, pps_cons hk.pe hv.pe h1, fun σ H Q ρ μ P XX hh hm hf hx q => ⟨ρ, μ, _, XX, hh, hm, hf, fun y μ1 u H1 p1 e1 m1 r1 => ⟨ρ, μ1, _, XX, hh.stp e1, m1, p1, fun z μ2 w H2 p2 e2 m2 r2 => ?_, hx.stp e1⟩, hx⟩⟩
  refine h2 σ H2 _ ρ μ2 _ XX (hh.stp (e1.trans e2)) m2 p2 (hx.stp (e1.trans e2)) fun ps μ' H' ⟨kv, kvs, ep, hl, rp, hP⟩ e m => ?_
  split at hP
  · rename_i q1 eq1
    have ey := kO_rw (r1.stp e2) eq1
    subst ey
    subst ep
    exact q _ μ' H' ⟨(q1, w) :: kv, _, rfl, Nat.succ_le_succ hl, .cons (r2.stp e) rp, hP⟩ ((e1.trans e2).trans e) m
  · exact hP.elim
@[reducible] def eDs (f : FP) : FE := fun ρ μ P X => ∀ p, μ p = none → f ρ (mset μ p (.dk [])) (fun kvs μ' => μ' p = some (.dk []) ∧ P (.ref p) (mset μ' p (.dk (mergeW [] kvs)))) X
theorem qe_ds {keys : List (Option Expr)} {values : List Expr} {f : FP} {n : Nat} (h : QP X E pos keys values n f) (hall : keys.all (·.isSome) = true) (hl : keys.length = values.length) (h0 : keys ≠ []) (h15 : keys.length ≤ 15) (hn : n ≤ 15) : QE X E (.Dict keys values pos) (eDs f) := by
  obtain ⟨trs, h1, h2⟩ := h.pp
  refine ⟨(pe_disp h1 hall hl h0 h15).qimp fun σ H Q h => ?_⟩
  obtain ⟨ρ, μ, P, XX, hh, hm, hf, hv, hx⟩ := h
  refine fun p hp => ?_
  have sp : Stp μ H (mset μ p (.dk [])) (upd H p (.dK [])) := Stp.newT hp
  refine h2 σ _ _ ρ _ _ XX (hh.stp sp) (new_dk hm hp) (hf p (hm.free hp)) (hx.stp sp) fun ps μ' H' ⟨kv, kvs, ep, hl, rp, hP, hP2⟩ e m => ?_
  obtain ⟨kv0, g1, g2⟩ := m _ _ hP
  cases g2
  have st : Stp μ' H' (mset μ' p (.dk (mergeW [] kvs))) (upd H' p (.dK (mergeK [] kv))) := Stp.put hP (nf_dk g1)
  exact ⟨g1, kv, ep, Nat.le_trans hl hn, hv _ _ _ _ hP2 ((sp.trans e).trans st) (m.put st ⟨_, upd_same, (rwp_merge rp .nil).stp st⟩) (.ref p)⟩
end
end Q
namespace Q
open PySem PySem.Spec PyProof.Rows L2 Evl
/-! exceptions -/
/-- an own exception class -/
structure ExcQ (K : Frag) (mg : Str → Option Value) (x : Str) : Prop where
  gC : mg x = some (.ref (He.ga K x))
  q : PySem.W.excIn K (He.ga K x) He.veBase "ValueError.__new__" = true
  kC : PySem.W.keepIn K (.ref (He.ga K x)) = true
  sub : PySem.W.subIn K (.ref (He.ga K x)) (.type "BaseException") = some true
  ty : PySem.W.typeIn K (.ref (He.ga K x)) = some (.type "type")
theorem exq_of {K : Frag} {mg : Str → Option Value} {x : Str} (g : mg x = some (.ref (He.ga K x))) (c : (He.Fa.exc x).ok K = true) : ExcQ K mg x := by
  obtain ⟨h1, h2⟩ := Bool.and_eq_true_iff.mp c
  obtain ⟨h3, h4⟩ := Bool.and_eq_true_iff.mp h2
  obtain ⟨h5, h6⟩ := Bool.and_eq_true_iff.mp h4
  exact ⟨g, h1, h3, of_decide_eq_true h5, of_decide_eq_true h6⟩
abbrev Tk (X : Cx) (E : L2.St → XK) : Prop := L2N.Takes X (fun c d σ H => E σ c d H)
theorem Tk.px {X : Cx} {E : L2.St → XK} (t : Tk X E) : Px X E := fun σ => L2N.passAt t σ
@[reducible] def sRaise (c : Str) : FS := fun ρ μ N => N.ex ρ c [] μ
theorem qs_raise {X : Cx} {E : L2.St → XK} {x m : Str} {j : Nat} {p p2 pos pos' : Pos} (e : ExcQ X.K X.mg x) (hc : X.calm = true) (tk : Tk X E) (hg : Gl X x) (hdb : (x == ("__debug__" : Str)) = false := by decide) :
    QS X E (.Raise (some (.Call (.Name x p) [.Constant (.str m) j p2] [] pos)) none pos') (sRaise x) := ⟨(L2N.ps_raise hc tk (L2N.pmk_own PySem.F.excBase_ValueError e.q e.gC e.kC (raises_own e.sub e.ty) hg hdb)).qimp fun D σ H h => by
  obtain ⟨ρ, μ, N, hh, hm, hf, l⟩ := h
  exact l.ex ρ x [] μ none σ H hf (Stp.refl μ H) hm hh .none⟩
/-! try -/
/-- what a handler's class catches of the classes al -/
def ExmQ (K : Frag) (al : List Str) (hv : Value) (cs : List Str) : Prop := ∀ c ∈ al, PySem.W.exmOne K (.ref (He.ga K c)) hv = some (decide (c ∈ cs))
@[reducible] def noEx (N : En) : En := { N with ex := fun _ _ _ _ => False }
@[reducible] def tryX : List (List Str × FS) → En → Rho → Xo
  | [], N, ρ, c, fs, μ => N.ex ρ c fs μ
  | (cs, s) :: r, N, ρ, c, fs, μ => if c ∈ cs then s ρ μ (noEx N) else tryX r N ρ c fs μ
@[reducible] def sTry (al : List Str) (b : FS) (hs : List (List Str × FS)) : FS := fun ρ μ N => b ρ μ { N with ex := fun ρ' c fs μ' => c ∈ al ∧ tryX hs N ρ' c fs μ' }
theorem EL.noEx {K : Frag} {E : L2.St → XK} {D : Ends} {μ : Mu} {H : Hp} {N : En} (l : EL K E D μ H N) : EL K EN D μ H (Q.noEx N) := ⟨l.nx, l.rt, l.bk, l.ct, fun _ _ _ _ _ _ _ z => z.elim⟩
structure QHd (X : Cx) (E : L2.St → XK) (al : List Str) (hds : List ExceptHandler) (hs : List (List Str × FS)) : Prop where
  ex : ∃ l, L2N.HdsOk X hds l ∧ ∀ (D : Ends) (c : Str) (fs : List (Str × W)) (ρ : Rho) (μ : Mu) (N : En) (d : Option Addr) (σ : L2.St) (H : Hp), c ∈ al → tryX hs N ρ c fs μ → Holds X.K H μ σ ρ → Mem X.K H μ → Pay X.K H μ d fs → EL X.K E D μ H N → wMany X.K (fun c d σ H => E σ c d H) D l (.ref (He.ga X.K c)) d σ H
section
variable {X : Cx} {E : L2.St → XK} {al cs : List Str}
theorem qhd_nil : QHd X E al [] [] := ⟨[], .nil, fun D c fs ρ μ N d σ H _ h hh hm hp l => l.ex ρ c fs μ d σ H h (Stp.refl μ H) hm hh hp⟩
theorem qhd_cons {x : Str} {hv : Value} {b₀ : Stmt} {suite : List Stmt} {np pos' : Pos} {hds : List ExceptHandler} {hs : List (List Str × FS)} {fs : FS} (hc : Names X x hv) (em : ExmQ X.K al hv cs)
    (hsu : ∀ (a : Addr) (oe : Obj) (d : Option Addr) (pn : List (Addr × Obj)), (∃ vs, oe.data = .fields vs) → QSs (X.suite a ((a, oe) :: pn)) EN (b₀ :: suite) fs) (hr : QHd X E al hds hs) :
    QHd X E al (.ExceptHandler (some (.Name x np)) none (b₀ :: suite) pos' :: hds) ((cs, fs) :: hs) := by
  obtain ⟨l, h1, h2⟩ := hr.ex
  refine ⟨(hv, fun _ _ _ => tS X.K EN fs) :: l, .cons hc (fun a oe cls d pn _ h => (hsu a oe d pn h).pss) h1, fun D c gs ρ μ N d σ H ha h hh hm hp el => ?_⟩
  refine ⟨decide (c ∈ cs), em c ha, fun hb a hn => ?_, fun hb => ?_⟩
  · have hb := of_decide_eq_true hb
    have h := (if_pos hb).mp h
    exact ⟨ρ, μ, _, hh, hm, h, el.noEx⟩
  · have hb := of_decide_eq_false hb
    have h := (if_neg hb).mp h
    exact h2 D c gs ρ μ N d σ H ha h hh hm hp el
theorem qs_try {body : List Stmt} {h₀ : ExceptHandler} {hds : List ExceptHandler} {hs : List (List Str × FS)} {fb : FS} {pos : Pos} (h1 : X.stack = X.env :: X.outer) (h2 : X.env.frame = some X.env.locals) (tk : Tk X E)
    (hb : ∀ (W : L2.WX) (pn : List (Addr × Obj)) (xe : Value → Shared → Prop), Tk (X.tr pn xe) (WE W) → PassesOwn (model X.prog X.w) X.A X.env xe → QSs (X.tr pn xe) (WE W) body fb)
    (hh : QHd X E al (h₀ :: hds) hs) : QS X E (.Try body (h₀ :: hds) [] [] pos) (sTry al fb hs) := by
  obtain ⟨l, g1, g2⟩ := hh.ex
  refine ⟨(L2N.ps_try_many (tb := fun W => tS X.K (WE W) fb) h1 h2 tk (fun W pn xe t po => (hb W pn xe t po).pss) g1).qimp fun D σ H h => ?_⟩
  obtain ⟨ρ, μ, N, hh, hm, hf, el⟩ := h
  exact ⟨ρ, μ, _, hh, hm, hf, el.nx, el.rt, el.bk, el.ct, fun ρ' c fs μ' d σ' H' hx e m h p => g2 D c fs ρ' μ' N d σ' H' hx.1 hx.2 h m p (el.stp e)⟩
end
/-! calls in a suite -/
end Q
namespace Q
open PySem PySem.Spec PyProof.Rows L2 Evl
/-- a statement with more than one way on: the reading stops here -/
def sJn (a b : FS) : FS := sSeq a b
theorem qss_jn {X : Cx} {E : L2.St → XK} {st : Stmt} {r : List Stmt} {f g : FS} (h : QS X E st f) (hr : QSs X E r g) : QSs X E (st :: r) (sJn f g) := show QSs X E (st :: r) (sSeq f g) from qss_cons h hr
/-! what the printed terms use -/
section
variable {X : Cx} {E : L2.St → XK}
theorem qv (i : Nat) {x : Str} {pos : Pos} (hN : X.N[i]? = some x := by rfl) (hv : Vis X.env.scope x := by first | exact Or.inl rfl | exact Or.inr (Or.inl rfl) | exact Or.inr (Or.inr rfl)) (hd : (x == ("__debug__" : Str)) = false := by decide)
    (hcd : (x == ("__classdict__" : Str)) = false := by decide) : QE X E (.Name x pos) (eV i) := qe_var hN hv hd hcd
theorem qt_chain {op op' : CmpOp} {o o' : F2} {a b c : Expr} {fa fb fc : FE} {pos : Pos} (ho : OpR X (compareOp op) (rW X.K o)) (ho' : OpR X (compareOp op') (rW X.K o')) (ha : QE X E a fa) (hb : QE X E b fb) (hc : QE X E c fc) (hm : lastMarks [op, op'] [b, c] = false := by with_unfolding_all rfl) : QT X E (.Compare a [op, op'] [b, c] pos) (cV (eChain o o' fa fb fc)) :=
  ⟨(L2.pt_chain ho ho' ha.pe hb.pe hc.pe hm).qimp fun σ H Q h => tE_chain (tT_of h)⟩
theorem qe_chn {op op' : CmpOp} {o o' : F2} {a b c : Expr} {fa fb fc : FE} {pos : Pos} (ho : OpR X (compareOp op) (rW X.K o)) (ho' : OpR X (compareOp op') (rW X.K o')) (ha : QE X E a fa) (hb : QE X E b fb) (hc : QE X E c fc) (hm : lastMarks [op, op'] [b, c] = false := by with_unfolding_all rfl) : QE X E (.Compare a [op, op'] [b, c] pos) (eChain o o' fa fb fc) :=
  qe_chain ho ho' ha hb hc (L2.pe_chain ho ho' ha.pe hb.pe hc.pe hm)
end
section
variable {P : Program} {w : World} {K : Frag} {mg : Str → Option Value} {base : Heap}
theorem fn_w {x qual : Str} {st : Stmt} {f : Addr} {fd : FuncData} {N ps : List Str} {k : Nat} {fb : FS} (F : FnM K x qual st f fd) (S : FnScope N ps (defScope st)) (hl : ps.length ≤ N.length)
    (body : ∀ (cdv : Value) (A : Around) (outer : List PySem.Env) (s : Shared) (H : Hp) (E : XK), Room k (A.deeper (PyProof.Rows.envOfC qual (defScope st) s.heap.objs.size f cdv)) → Tk (cxOf (L2N.CX P w) P w K mg base N qual (defScope st) f cdv A outer s H E) (fun _ => E) →
      PassesOwn (model P w) (cxOf (L2N.CX P w) P w K mg base N qual (defScope st) f cdv A outer s H E).A (cxOf (L2N.CX P w) P w K mg base N qual (defScope st) f cdv A outer s H E).env (cxOf (L2N.CX P w) P w K mg base N qual (defScope st) f cdv A outer s H E).xe →
      (∀ hd : Option Value, PassesOwnAt (model P w) ((cxOf (L2N.CX P w) P w K mg base N qual (defScope st) f cdv A outer s H E).A.mark hd) (cxOf (L2N.CX P w) P w K mg base N qual (defScope st) f cdv A outer s H E).A (cxOf (L2N.CX P w) P w K mg base N qual (defScope st) f cdv A outer s H E).env (cxOf (L2N.CX P w) P w K mg base N qual (defScope st) f cdv A outer s H E).xe) →
      QSs (cxOf (L2N.CX P w) P w K mg base N qual (defScope st) f cdv A outer s H E) (fun _ => E) (defBody st) fb) : FnOk P w K mg base (L2N.CX P w) (k + 1) f fd ps (spF K (fDef ps.length N.length fb)) :=
  fn_q F S hl fun cdv A outer s H E hr => body cdv A outer s H E hr (L2N.takes_of rfl rfl rfl rfl) PassesOwn.leaving fun _ => PassesOwnAt.leaving
theorem dq_mk {k : Nat} {x : Str} {st : Stmt} {f : Addr} {fd : FuncData} {ps : List Str} {fw : FW} (F : FnM K x x st f fd) (g : mg x = some (.ref f)) (b : Binds K fd ps []) (h : FnOk P w K mg base (L2N.CX P w) k f fd ps (spF K fw)) : DefQ P w K mg base k x ps fw := ⟨f, fd, h, g, F.kp, b⟩
end
/-- nothing that is looked at is a list -/
theorem noLst_no {K : Frag} {a : Addr} {o : Obj} (h : noLst K = true) (e : K.lookup a = some o) : o.cls ≠ .type "list" := fun q => by
  have h2 := List.all_eq_true.mp h _ (He.lookup_mem e)
  rw [show ((a, o) : Addr × Obj).2.cls = .type "list" from q] at h2
  simp at h2
/-- the law's own def: nothing is let out -/
def spL (K : Frag) (f : FW) : Sp := fun vs H Q _ => ∃ ws μ P, RwAll K H μ vs ws ∧ Mem K H μ ∧ f ws μ P (fun _ _ _ => False) ∧ VL K Q μ H P
theorem tk_no {X : Cx} : Tk X EN := fun _ _ x => by
  obtain ⟨_, _, _, _, _, _, _, _, _, _, _, _, _, _, _, _, z⟩ := x
  exact z.elim
theorem fn_l {P : Program} {w : World} {K : Frag} {mg : Str → Option Value} {base : Heap} {x qual : Str} {st : Stmt} {f : Addr} {fd : FuncData} {N ps : List Str} {k : Nat} {fb : FS} (F : FnM K x qual st f fd) (S : FnScope N ps (defScope st)) (hl : ps.length ≤ N.length)
    (body : ∀ (cdv : Value) (A : Around) (outer : List PySem.Env) (s : Shared) (H : Hp) (E : XK), Room k (A.deeper (PyProof.Rows.envOfC qual (defScope st) s.heap.objs.size f cdv)) → Tk (cxOf CX0 P w K mg base N qual (defScope st) f cdv A outer s H E) EN →
      PassesOwn (model P w) (cxOf CX0 P w K mg base N qual (defScope st) f cdv A outer s H E).A (cxOf CX0 P w K mg base N qual (defScope st) f cdv A outer s H E).env (cxOf CX0 P w K mg base N qual (defScope st) f cdv A outer s H E).xe →
      (∀ hd : Option Value, PassesOwnAt (model P w) ((cxOf CX0 P w K mg base N qual (defScope st) f cdv A outer s H E).A.mark hd) (cxOf CX0 P w K mg base N qual (defScope st) f cdv A outer s H E).A (cxOf CX0 P w K mg base N qual (defScope st) f cdv A outer s H E).env (cxOf CX0 P w K mg base N qual (defScope st) f cdv A outer s H E).xe) →
      QSs (cxOf CX0 P w K mg base N qual (defScope st) f cdv A outer s H E) EN (defBody st) fb) : FnOk P w K mg base CX0 (k + 1) f fd ps (spL K (fDef ps.length N.length fb)) := by
  refine L2.FunD.ok F S (fun vs H Q E h => ?_) (fun cdv A outer s H vs Q E hr h => ?_)
  · obtain ⟨ws, μ, Pq, h1, _, h2, _⟩ := h
    rw [h1.len]
    exact h2.1
  · obtain ⟨ws, μ, Pq, h1, hm, h2, v⟩ := h
    have h0 := Holds.start (N := N) h1
    rw [← rho0_is _ _ (by rw [h2.1]; exact hl)] at h0
    refine ⟨_, (body cdv A outer s H E hr tk_no PassesOwn.leaving fun _ => PassesOwnAt.leaving).pss, _, μ, _, h0, hm, h2.2, ?_⟩
    have e := el_def (E := fun _ _ _ => False) v (fun _ _ _ _ _ x => x.elim : XL K (fun _ _ _ => False) μ H fun _ _ _ => False)
    exact ⟨e.nx, e.rt, e.bk, e.ct, e.ex⟩
theorem fld1 {K : Frag} {c f : Str} (l : Cls K (He.ga K c)) (n : NoAttr K (He.ga K c) f) : ∀ x ∈ [c], Cls K (He.ga K x) ∧ NoAttr K (He.ga K x) f := fun x h => by
  rcases List.mem_cons.mp h with e | e
  · rw [e]
    exact ⟨l, n⟩
  · cases e
/-! tuples of texts that the module names -/
theorem eqStrs_ok : ∀ {vs : List Value} {ws : List Str}, eqStrs vs ws = true → Vals (ws.map V.str) vs
  | [], [], _ => .nil
  | v :: r, y :: s, h => by
    cases v with
    | str x t =>
      obtain ⟨h1, h2⟩ := Bool.and_eq_true_iff.mp (show (decide (x = y) && eqStrs r s) = true from h)
      have e : x = y := of_decide_eq_true h1
      exact .cons ⟨t, by rw [e]⟩ (eqStrs_ok h2)
    | _ => cases h
  | [], _ :: _, h => by cases h
  | v :: _, [], h => by cases v <;> cases h
end Q
namespace Q
open PySem L2
/-! steps of a def's reading -/
theorem q_t {c : Bool} {A B : Prop} (h : c = true) (a : A) : if c = true then A else B := by
  rw [if_pos h]
  exact a
theorem q_f {c : Bool} {A B : Prop} (h : c = false) (b : B) : if c = true then A else B := by
  rw [if_neg (by rw [h]; exact Bool.false_ne_true)]
  exact b
theorem q_if {c : Bool} {A B : Prop} (a : c = true → A) (b : c = false → B) : if c = true then A else B := by
  cases c with
  | true => exact iteT (a rfl)
  | false => exact iteF (b rfl)
theorem q_and {A B : Prop} (a : A) (b : B) : A ∧ B := ⟨a, b⟩
theorem q_go {a b : FS} {ρ : Rho} {μ : Mu} {N : En} (h : sSeq a b ρ μ N) : sJn a b ρ μ N := h
theorem q_jn {a b : FS} {ρ : Rho} {μ : Mu} {N : En} (M : Rho → Mu → Prop) (h : ∀ K : Rho → Mu → Prop, (∀ ρ' μ', M ρ' μ' → K ρ' μ') → a ρ μ { N with nx := K }) (k : ∀ ρ' μ', M ρ' μ' → b ρ' μ' N) : sJn a b ρ μ N := h _ k
theorem q_ifP {p : Prop} [Decidable p] {A B : Prop} (a : p → A) (b : ¬p → B) : if decide p = true then A else B := by
  by_cases h : p
  · rw [if_pos (decide_eq_true h)]
    exact a h
  · rw [if_neg (by rw [decide_eq_false h]; exact Bool.false_ne_true)]
    exact b h
theorem q_ifN {p : Prop} [Decidable p] {A B : Prop} (a : p → B) (b : ¬p → A) : if (!decide p) = true then A else B := by
  by_cases h : p
  · rw [if_neg (by rw [decide_eq_true h]; decide)]
    exact a h
  · rw [if_pos (by rw [decide_eq_false h]; rfl)]
    exact b h
/-! walks -/
/-- each turn goes on, the store as it was, or returns v -/
theorem itS_ret {std : Mu → Prop} {g : FG} {b : FS} {N : En} {μ : Mu} {v : W} (ok : W → Bool) (I : Rho → Prop) (hstd : std μ) : ∀ (ws : List W) {ρ : Rho}, I ρ →
    (∀ w ∈ ws, ∀ ρ, I ρ → ∀ K : Rho → Mu → Prop, (ok w = true → ∀ ρ', I ρ' → K ρ' μ) → (ok w = false → N.rt v μ) → g w ρ μ fun ρ1 μ1 => b ρ1 μ1 { nx := K, ct := K, bk := N.nx, rt := N.rt, ex := N.ex }) →
    (ws.all ok = true → ∀ ρ', I ρ' → N.nx ρ' μ) → (ws.all ok = false → N.rt v μ) → itS std g b ws ρ μ N
  | [], ρ, h0, hs, ht, hf => ⟨hstd, ht rfl ρ h0⟩
  | w :: ws, ρ, h0, hs, ht, hf => ⟨hstd, hs w List.mem_cons_self ρ h0 _ (fun e ρ' h' => itS_ret ok I hstd ws h' (fun u hu => hs u (List.mem_cons_of_mem _ hu)) (fun a => ht (by rw [List.all_cons, e, a]; rfl)) fun a => hf (by rw [List.all_cons, e, a]; rfl)) fun e => hf (by rw [List.all_cons, e]; rfl)⟩
/-! texts -/
theorem slt_one (a b : Nat) : sLt ⟨#[a]⟩ ⟨#[b]⟩ = decide (a < b) := by
  unfold sLt
  simp [List.cons_lt_cons_iff]
theorem pick_c0 {α : Type} (a : α) (l : List α) : pick (a :: l) 0 = some a := pick_nat (Int.le_refl 0) rfl
theorem pick_c1 {α : Type} (a b : α) (l : List α) : pick (a :: b :: l) 1 = some b := pick_nat (by decide) rfl
theorem pick_c2 {α : Type} (a b c : α) (l : List α) : pick (a :: b :: c :: l) 2 = some c := pick_nat (by decide) rfl
theorem pick_c3 {α : Type} (a b c d : α) (l : List α) : pick (a :: b :: c :: d :: l) 3 = some d := pick_nat (by decide) rfl
theorem pick_c4 {α : Type} (a b c d e : α) (l : List α) : pick (a :: b :: c :: d :: e :: l) 4 = some e := pick_nat (by decide) rfl
theorem pick_c5 {α : Type} (a b c d e f : α) (l : List α) : pick (a :: b :: c :: d :: e :: f :: l) 5 = some f := pick_nat (by decide) rfl
/-! comprehensions over things that stand for values -/
section
variable {α : Type} {std : Mu → Prop} {g : FG} {c : FT} {e : FE} {ρ : Rho} {μ : Mu} {P : Po}
abbrev LcOf (g : FG) (c : FT) (e : FE) (ρ : Rho) (w : W) (r : Option W) (μ' : Mu) : Prop := ∀ (N : Mu → Prop) (Y : W → Mu → Prop), (r = none → N μ') → (∀ y, r = some y → Y y μ') → g w ρ μ' fun ρ2 μ2 => c ρ2 μ2 (fun b μ3 => if b = true then e ρ2 μ3 Y noX else N μ3) noX
theorem lc_of {p : Addr} {k : List W → Mu → Prop} (enc : α → W) (f : α → Option W) (hp : μ p = none) (hstd : ∀ μ', Ext μ μ' → std μ') : ∀ (xs : List α) (acc : List W), acc.length + xs.length ≤ 16000000 →
    (∀ x ∈ xs, ∀ μ', Ext μ μ' → LcOf g c e ρ (enc x) (f x) μ') → k (acc ++ xs.filterMap f) (mset μ p (.ls (acc ++ xs.filterMap f))) → lcS std g c e p k ρ (xs.map enc) acc (mset μ p (.ls acc))
  | [], acc, _, _, hk => by
    rw [List.filterMap_nil, List.append_nil] at hk
    exact ⟨hstd _ (Ext.new hp), hk⟩
  | x :: xs, acc, hz, h, hk => by
    rw [List.length_cons] at hz
    refine ⟨hstd _ (Ext.new hp), h x List.mem_cons_self _ (Ext.new hp) (fun μ3 => μ3 p = some (.ls acc) ∧ lcS std g c e p k ρ (xs.map enc) acc μ3) (fun y μ4 => μ4 p = some (.ls acc) ∧ acc.length < 16000000 ∧ lcS std g c e p k ρ (xs.map enc) (acc ++ [y]) (mset μ4 p (.ls (acc ++ [y])))) (fun hf => ?_) fun y hf => ?_⟩
    · rw [List.filterMap_cons_none hf] at hk
      exact ⟨mset_same, lc_of enc f hp hstd xs acc (by omega) (fun x hx => h x (List.mem_cons_of_mem _ hx)) hk⟩
    · rw [List.filterMap_cons_some hf] at hk
      refine ⟨mset_same, by omega, ?_⟩
      rw [mset_mset]
      exact lc_of enc f hp hstd xs (acc ++ [y]) (by rw [List.length_append, List.length_singleton]; omega) (fun x hx => h x (List.mem_cons_of_mem _ hx)) (by rw [List.append_assoc, List.singleton_append]; exact hk)
theorem lcV_fm (enc : α → W) (f : α → Option W) (xs : List α) (hz : xs.length ≤ 16000000) (hstd : ∀ μ', Ext μ μ' → std μ') (h : ∀ x ∈ xs, ∀ μ', Ext μ μ' → LcOf g c e ρ (enc x) (f x) μ') (hk : P (.lst (xs.filterMap f)) μ) : lcVK std g c e ρ (xs.map enc) P μ := fun p hp =>
  lc_of enc f hp hstd xs [] (by simpa using hz) h ⟨μ, Sub.new hp, hp, hk⟩
theorem lcR_fm (enc : α → W) (f : α → Option W) (xs : List α) (hz : xs.length ≤ 16000000) (hstd : ∀ μ', Ext μ μ' → std μ') (h : ∀ x ∈ xs, ∀ μ', Ext μ μ' → LcOf g c e ρ (enc x) (f x) μ') (hk : ∀ p, μ p = none → P (.ref p) (mset μ p (.ls (xs.filterMap f)))) : lcRK std g c e ρ (xs.map enc) P μ := fun p hp =>
  lc_of (k := fun _ μ' => P (.ref p) μ') enc f hp hstd xs [] (by simpa using hz) h (hk p hp)
theorem fm_filter (enc : α → W) (t : α → Bool) : ∀ xs : List α, xs.filterMap (fun x => if t x = true then some (enc x) else none) = (xs.filter t).map enc
  | [] => rfl
  | x :: xs => by
    rw [List.filterMap_cons, List.filter_cons, fm_filter enc t xs]
    cases t x <;> rfl
theorem fm_map (f : α → W) : ∀ xs : List α, xs.filterMap (fun x => some (f x)) = xs.map f
  | [] => rfl
  | x :: xs => by
    rw [List.filterMap_cons, List.map_cons, fm_map f xs]
theorem lcR_tm (enc f : α → W) (t : α → Bool) (xs : List α) (hz : xs.length ≤ 16000000) (hstd : ∀ μ', Ext μ μ' → std μ')
    (h : ∀ x ∈ xs, ∀ μ', Ext μ μ' → ∀ (N : Mu → Prop) (Y : W → Mu → Prop), (t x = false → N μ') → (t x = true → Y (f x) μ') → g (enc x) ρ μ' fun ρ2 μ2 => c ρ2 μ2 (fun b μ3 => if b = true then e ρ2 μ3 Y noX else N μ3) noX)
    (hk : ∀ p, μ p = none → P (.ref p) (mset μ p (.ls ((xs.filter t).map f)))) : lcRK std g c e ρ (xs.map enc) P μ :=
  lcR_fm enc (fun x => if t x = true then some (f x) else none) xs hz hstd (fun x hx μ' he N Y hn hy => h x hx μ' he N Y (fun q => hn (by rw [q]; rfl)) fun q => hy _ (by rw [q]; rfl)) (by rw [fm_filter]; exact hk)
/-- [f x for x in xs] -/
theorem lcV_m (enc f : α → W) (xs : List α) (hz : xs.length ≤ 16000000) (hstd : ∀ μ', Ext μ μ' → std μ')
    (h : ∀ x ∈ xs, ∀ μ', Ext μ μ' → ∀ (Y : W → Mu → Prop), Y (f x) μ' → g (enc x) ρ μ' fun ρ2 μ2 => e ρ2 μ2 Y noX) (hk : P (.lst (xs.map f)) μ) : lcVK std g cYes e ρ (xs.map enc) P μ :=
  lcV_fm enc (fun x => some (f x)) xs hz hstd (fun x hx μ' he N Y _ hy => by
    simp only [cYes, if_true]
    exact h x hx μ' he Y (hy _ rfl)) (by rw [fm_map]; exact hk)
end
/-- a loop over things that stand for values, with an invariant: what is done, what is left -/
theorem itS_of {α : Type} {std : Mu → Prop} {g : FG} {b : FS} {N : En} (enc : α → W) (I : List α → List α → Rho → Mu → Prop) : ∀ (xs done : List α) {ρ : Rho} {μ : Mu}, I done xs ρ μ →
    (∀ done x r ρ μ, I done (x :: r) ρ μ → std μ ∧ ∀ K : Rho → Mu → Prop, (∀ ρ' μ', I (done ++ [x]) r ρ' μ' → K ρ' μ') → g (enc x) ρ μ fun ρ1 μ1 => b ρ1 μ1 { nx := K, ct := K, bk := N.nx, rt := N.rt, ex := N.ex }) →
    (∀ done ρ μ, I done [] ρ μ → std μ ∧ N.nx ρ μ) → itS std g b (xs.map enc) ρ μ N
  | [], done, ρ, μ, h0, hs, hd => hd done ρ μ h0
  | x :: r, done, ρ, μ, h0, hs, hd => ⟨(hs done x r ρ μ h0).1, (hs done x r ρ μ h0).2 _ fun ρ' μ' h' => itS_of enc I r (done ++ [x]) h' hs hd⟩
theorem pick_map {α : Type} {enc : α → W} {xs : List α} {i : Int} {x : α} (h0 : 0 ≤ i) (h : xs[i.toNat]? = some x) : pick (xs.map enc) i = some (enc x) := pick_nat h0 (by rw [List.getElem?_map, h]; rfl)
theorem pick_mapN {α : Type} {enc : α → W} {xs : List α} {i : Nat} {x : α} (h : xs[i]? = some x) : pick (xs.map enc) (i : Int) = some (enc x) := pick_map (Int.natCast_nonneg i) (by simpa using h)
theorem new_ne {μ : Mu} {p q : Addr} {o : O} (h : mset μ p o q = none) : q ≠ p ∧ μ q = none := by
  have ne : q ≠ p := fun e => by
    rw [e, mset_same] at h
    cases h
  rw [mset_ne ne] at h
  exact ⟨ne, h⟩
theorem tyL_ref {μ : Mu} {p : Addr} {ws : List W} (h : μ p = some (.ls ws)) : tyL μ (.ref p) := by
  show (match μ p with
    | some (.ls ws) => some ws
    | _ => none).isSome = true
  rw [h]
  rfl
theorem tyD_ref {μ : Mu} {p : Addr} {kvs : List (Key × W)} (h : μ p = some (.dk kvs)) : tyD μ (.ref p) := by
  show (match μ p with
    | some (.dk _) => True
    | _ => False)
  rw [h]
  trivial
theorem rdD_ref {μ : Mu} {p : Addr} {kvs : List (Key × W)} (h : μ p = some (.dk kvs)) : (rdD μ (.ref p)).isSome = true := by
  show (match μ p with
    | some (.dk kvs) => some kvs
    | some (.rk kvs) => some kvs
    | _ => none).isSome = true
  rw [h]
  rfl
theorem cutL_len {α : Type} (xs : List α) (lo hi : Option Int) : (cutL xs lo hi).length ≤ xs.length := by
  unfold cutL
  rw [List.length_take, List.length_drop]
  omega
theorem ixN_last {n : Nat} (h : 0 < n) : ixN n (-1) = some (n - 1) := by
  unfold ixN
  rw [if_neg (by omega), if_pos (by omega)]
  congr 1
  omega
theorem ixN_nat {n k : Nat} (h : k < n) : ixN n (k : Int) = some k := by
  unfold ixN
  rw [if_pos (by omega), if_pos (by omega)]
  congr 1
theorem pick_mlast {α : Type} {enc : α → W} (xs : List α) (x : α) : pick ((xs ++ [x]).map enc) (-1) = some (enc x) := by
  rw [List.map_append]
  exact pick_last _ _
theorem rdL_ref {μ : Mu} {p : Addr} {ws : List W} (h : μ p = some (.ls ws)) : rdL μ (.ref p) = some ws := by
  show (match μ p with
    | some (.ls ws) => some ws
    | _ => none) = some ws
  rw [h]
theorem rdM_ref {μ : Mu} {p : Addr} {ws : List W} (h : μ p = some (.ls ws)) : rdM μ (.ref p) = some ws := by
  show (match μ p with
    | some (.ls ws) => some ws
    | _ => none) = some ws
  rw [h]
theorem rdL_refD {μ : Mu} {p : Addr} {kvs : List (Key × W)} (h : μ p = some (.dk kvs)) : rdL μ (.ref p) = none := by
  show (match μ p with
    | some (.ls ws) => some ws
    | _ => none) = none
  rw [h]
theorem rdD_refD {μ : Mu} {p : Addr} {kvs : List (Key × W)} (h : μ p = some (.dk kvs)) : rdD μ (.ref p) = some kvs := by
  show (match μ p with
    | some (.dk kvs) => some kvs
    | some (.rk kvs) => some kvs
    | _ => none) = some kvs
  rw [h]
theorem rdL_refK {μ : Mu} {p : Addr} {kvs : List (Key × W)} (h : μ p = some (.rk kvs)) : rdL μ (.ref p) = none := by
  show (match μ p with
    | some (.ls ws) => some ws
    | _ => none) = none
  rw [h]
theorem rdD_refK {μ : Mu} {p : Addr} {kvs : List (Key × W)} (h : μ p = some (.rk kvs)) : rdD μ (.ref p) = some kvs := by
  show (match μ p with
    | some (.dk kvs) => some kvs
    | some (.rk kvs) => some kvs
    | _ => none) = some kvs
  rw [h]
theorem drf_ref {μ : Mu} {p : Addr} {ws : List W} (h : μ p = some (.ls ws)) : drf μ (.ref p) = .lst ws := by
  show (match μ p with
    | some (.ls ws) => W.lst ws
    | _ => .ref p) = _
  rw [h]
theorem tyW_refL {μ : Mu} {p : Addr} {ws : List W} (h : μ p = some (.ls ws)) : tyW μ (.ref p) = some .lst := by
  show (match μ p with
    | some (.ls _) => some T7.lst
    | some (.dk _) => some .dct
    | some (.rk _) => some .dct
    | some (.dt _) => some .dct
    | _ => none) = _
  rw [h]
theorem tyW_refD {μ : Mu} {p : Addr} {kvs : List (Key × W)} (h : μ p = some (.dk kvs)) : tyW μ (.ref p) = some .dct := by
  show (match μ p with
    | some (.ls _) => some T7.lst
    | some (.dk _) => some .dct
    | some (.rk _) => some .dct
    | some (.dt _) => some .dct
    | _ => none) = _
  rw [h]
theorem nums_at {lo : Int} {n i : Nat} {w : W} (h : (nums lo n)[i]? = some w) : i < n ∧ w = .int (lo + i) := by
  unfold nums at h
  rw [List.getElem?_map] at h
  obtain ⟨j, h1, h2⟩ := Option.map_eq_some_iff.mp h
  obtain ⟨h3, h4⟩ := List.getElem?_eq_some_iff.mp h1
  rw [List.getElem_range] at h4
  rw [List.length_range] at h3
  subst h4
  exact ⟨h3, h2.symm⟩
theorem nums_len (lo : Int) (n : Nat) : (nums lo n).length = n := by
  unfold nums
  rw [List.length_map, List.length_range]
/-- over a range, by the turn -/
theorem itS_nums {std : Mu → Prop} {g : FG} {b : FS} {N : En} {lo : Int} {n : Nat} (I : Nat → Rho → Mu → Prop) {ρ : Rho} {μ : Mu} (h0 : I 0 ρ μ) (hstd : ∀ μ, std μ)
    (hs : ∀ k, k < n → ∀ ρ μ, I k ρ μ → ∀ K : Rho → Mu → Prop, (∀ ρ' μ', I (k + 1) ρ' μ' → K ρ' μ') → g (.int (lo + k)) ρ μ fun ρ1 μ1 => b ρ1 μ1 { nx := K, ct := K, bk := N.nx, rt := N.rt, ex := N.ex })
    (hd : ∀ ρ μ, I n ρ μ → N.nx ρ μ) : itS std g b (nums lo n) ρ μ N :=
  itS_inv (nums lo n) I h0 (fun i w ρ μ hw h => ⟨hstd μ, fun K hK => by
    obtain ⟨h1, rfl⟩ := nums_at hw
    exact hs i h1 ρ μ h K hK⟩) fun ρ μ h => ⟨hstd μ, hd ρ μ (by rw [nums_len] at h; exact h)⟩
theorem q_len {ws : List W} {n : Nat} {B : Prop} (h : Nat.ble ws.length n = true) (b : B) : ws.length ≤ n ∧ B := ⟨Nat.le_of_ble_eq_true h, b⟩
theorem q_leq {ws : List W} {n : Nat} {B : Prop} (h : ws.length = n) (b : B) : ws.length = n ∧ B := ⟨h, b⟩
theorem q_le {a b : Nat} {B : Prop} (h : Nat.ble a b = true) (k : B) : a ≤ b ∧ B := ⟨Nat.le_of_ble_eq_true h, k⟩
theorem tyL_lst {μ : Mu} {ws : List W} : tyL μ (.lst ws) := rfl
theorem tyL_rol {μ : Mu} {ws : List W} : tyL μ (.rol ws) := rfl
theorem isDs_all {n : Nat} : ∀ {ws : List W}, (∀ w ∈ ws, isD n w = true) → isDs n ws = true
  | [], _ => by cases n <;> rfl
  | w :: ws, h => by
    have h1 := h w List.mem_cons_self
    have h2 := isDs_all fun x hx => h x (List.mem_cons_of_mem _ hx)
    cases n <;> (show (isD _ w && isDs _ ws) = true; rw [h1, h2]; rfl)
theorem neG_same {x y : W} {μ : Mu} {P : Po} (hd : isD 60 (drf μ x) = true) (e : drf μ y = drf μ x) (h : P (.bl false) μ) : wEqG true x y μ P := by
  refine ⟨hd, by rw [e]; exact hd, ?_⟩
  rw [e, if_pos rfl, eqW_refl 60 _ hd]
  exact h
theorem eqG_same {x y : W} {μ : Mu} {P : Po} (hd : isD 60 (drf μ x) = true) (e : drf μ y = drf μ x) (h : P (.bl true) μ) : wEqG false x y μ P := by
  refine ⟨hd, by rw [e]; exact hd, ?_⟩
  rw [e, if_neg Bool.false_ne_true, eqW_refl 60 _ hd]
  exact h
theorem q_nn {p : Prop} [Decidable p] (h : p) : (!decide p) = false := by rw [decide_eq_true h]; rfl
theorem q_nt {p : Prop} [Decidable p] (h : ¬p) : (!decide p) = true := by rw [decide_eq_false h]; rfl
end Q
namespace Q
open PySem PySem.Spec PyProof.Rows L2 Evl
/-! exceptions with two fields, set by the class's own __init__ -/
section
variable {X : Cx} {E : L2.St → XK} {k : Nat} {x f g : Str} {e1 e2 : Expr} {p pos pos' : Pos} {fa : FA}
/-! except C as n -/
theorem Pay.rw {K : Frag} {H : Hp} {μ : Mu} {d : Option Addr} {fs : List (Str × W)} {a : Addr} {c : Str} (p : Pay K H μ d fs) : Rw K H μ (.ref a) (.exc a d c fs) := by
  cases p with
  | none => exact .exc
  | some h n r => exact .excf h n r
theorem Holds.hv {K : Frag} {H : Hp} {μ : Mu} {σ : L2.St} {ρ : Rho} (i : Nat) (h : Holds K H μ σ ρ) : Holds K H μ (σ.set i none) (Q.hv ρ i) := by
  rw [hv_set]
  exact h.hide i
end
/-! steps over what is tracked -/
@[reducible] def mo {α : Type} (x : Option α) (A : α → Prop) : Prop := match x with
  | some y => A y
  | none => False
theorem q_ex {c : Str} {fs : List (Str × W)} {μ : Mu} {X : Xo} (h : X c fs μ) : ∃ μ'', Sub μ'' μ ∧ X c fs μ'' := ⟨μ, Sub.refl μ, h⟩
theorem lk_hit {β : Type} {f : Str} {x : β} {r : List (Str × β)} : lk f ((f, x) :: r) = some x := by
  unfold lk
  rw [if_pos rfl]
theorem lk_skip {β : Type} {f g : Str} {x : β} {o : Option β} {r : List (Str × β)} (h : f ≠ g) (e : lk f r = o) : lk f ((g, x) :: r) = o := by
  unfold lk
  rw [if_neg h]
  exact e
theorem lk_nil {β : Type} {f : Str} : lk f ([] : List (Str × β)) = none := rfl
theorem lk_skip1 {β : Type} {f g : Str} {x : β} {r : List (Str × β)} (h : f ≠ g) : lk f ((g, x) :: r) = lk f r := lk_skip h rfl
theorem q_lkn {f : Str} {fs : List (Str × W)} {B : Prop} (h : lk f fs = none) (b : B) : lk f fs = none ∧ B := ⟨h, b⟩
theorem q_memc {c : Str} {cs : List Str} {B : Prop} (b : B) : c ∈ c :: cs ∧ B := ⟨List.mem_cons_self, b⟩
mutual
theorem isD_mono : ∀ {n m : Nat} {w : W}, n ≤ m → isD n w = true → isD m w = true
  | _, m, .non, _, _ | _, m, .bl _, _, _ | _, m, .int _, _, _ | _, m, .str _, _, _ => by cases m <;> rfl
  | n + 1, m + 1, .tup ws, h, d => isDs_mono (ws := ws) (Nat.le_of_succ_le_succ h) d
  | n + 1, m + 1, .lst ws, h, d => isDs_mono (ws := ws) (Nat.le_of_succ_le_succ h) d
  | 0, _, .tup _, _, d | 0, _, .lst _, _, d => by cases d
  | n + 1, 0, .tup _, h, _ | n + 1, 0, .lst _, h, _ => absurd h (by omega)
  | n, _, .rol _, _, d | n, _, .ref _, _, d | n, _, .fn _, _, d | n, _, .exc _ _ _ _, _, d => by cases n <;> cases d
theorem isDs_mono : ∀ {n m : Nat} {ws : List W}, n ≤ m → isDs n ws = true → isDs m ws = true
  | n, m, [], _, _ => by cases m <;> rfl
  | n, m, w :: ws, h, d => by
    have d : (isD n w && isDs n ws) = true := by
      unfold isDs at d
      exact d
    obtain ⟨d1, d2⟩ := Bool.and_eq_true_iff.mp d
    unfold isDs
    rw [isD_mono h d1, isDs_mono h d2]
    rfl
end
theorem q_pow {i j : Int} {B : Prop} (h : (decide (0 ≤ j) && (decide (j ≤ 1000000) && decide (i.natAbs < 2 ^ 64))) = true) (b : B) : CPow i j ∧ B := by
  obtain ⟨h1, h⟩ := Bool.and_eq_true_iff.mp h
  obtain ⟨h2, h3⟩ := Bool.and_eq_true_iff.mp h
  exact ⟨⟨of_decide_eq_true h1, of_decide_eq_true h2, of_decide_eq_true h3⟩, b⟩
theorem isD_drf {n : Nat} {w : W} {μ : Mu} (h : isD n w = true) : drf μ w = w := by
  cases w <;> first | rfl | (cases n <;> cases h)
theorem wNe_same {n : Nat} {w : W} {μ : Mu} {P : Po} (hd : isD n w = true) (hn : n ≤ 60) (h : P (.bl false) μ) : wNe w w μ P := by
  have hd : isD 60 w = true := isD_mono hn hd
  have e := isD_drf (μ := μ) hd
  cases w <;> first
    | exact neG_same (by rw [e]; exact hd) rfl h
    | (show P (.bl (!decide _)) μ; rw [decide_eq_true rfl]; exact h)
theorem wEq_same {n : Nat} {w : W} {μ : Mu} {P : Po} (hd : isD n w = true) (hn : n ≤ 60) (h : P (.bl true) μ) : wEq w w μ P := by
  have hd : isD 60 w = true := isD_mono hn hd
  have e := isD_drf (μ := μ) hd
  cases w <;> first
    | exact eqG_same (by rw [e]; exact hd) rfl h
    | (show P (.bl (decide _)) μ; rw [decide_eq_true rfl]; exact h)
/-! == and != that are not opened at values that are not known -/
def wEqu : F2 := wEq
def wNeq : F2 := wNe
theorem opU_equ {X : Cx} (hu : X.A.units + 64 < cLine) : OpR X (compareOp .Eq) (rW X.K wEqu) := opU_eq hu
theorem opU_neq {X : Cx} (hu : X.A.units + 64 < cLine) : OpR X (compareOp .NotEq) (rW X.K wNeq) := opU_ne hu
section
variable {μ : Mu} {P : Po}
theorem q_eqI {i j : Int} (h : P (.bl (decide (i = j))) μ) : wEqu (.int i) (.int j) μ P := h
theorem q_eqS {i j : Str} (h : P (.bl (decide (i = j))) μ) : wEqu (.str i) (.str j) μ P := h
theorem q_eqB {i j : Bool} (h : P (.bl (decide (i = j))) μ) : wEqu (.bl i) (.bl j) μ P := h
theorem q_neI {i j : Int} (h : P (.bl (!decide (i = j))) μ) : wNeq (.int i) (.int j) μ P := h
theorem q_neS {i j : Str} (h : P (.bl (!decide (i = j))) μ) : wNeq (.str i) (.str j) μ P := h
theorem q_neB {i j : Bool} (h : P (.bl (!decide (i = j))) μ) : wNeq (.bl i) (.bl j) μ P := h
theorem wEqu_same {n : Nat} {w : W} (hd : isD n w = true) (hn : n ≤ 60) (h : P (.bl true) μ) : wEqu w w μ P := wEq_same hd hn h
theorem wNeq_same {n : Nat} {w : W} (hd : isD n w = true) (hn : n ≤ 60) (h : P (.bl false) μ) : wNeq w w μ P := wNe_same hd hn h
/-- lists that stand somewhere -/
theorem wEqu_ls {n : Nat} {ws : List W} {x y : W} (hx : drf μ x = .lst ws) (hy : drf μ y = .lst ws) (hd : isD n (.lst ws) = true) (hn : n ≤ 60) (h : P (.bl true) μ) : wEqu x y μ P := by
  have hd : isD 60 (.lst ws) = true := isD_mono hn hd
  show wEq x y μ P
  cases x <;> first
    | exact eqG_same (by rw [hx]; exact hd) (hy.trans hx.symm) h
    | (cases hx)
theorem wNeq_ls {n : Nat} {ws : List W} {x y : W} (hx : drf μ x = .lst ws) (hy : drf μ y = .lst ws) (hd : isD n (.lst ws) = true) (hn : n ≤ 60) (h : P (.bl false) μ) : wNeq x y μ P := by
  have hd : isD 60 (.lst ws) = true := isD_mono hn hd
  show wNe x y μ P
  cases x <;> first
    | exact neG_same (by rw [hx]; exact hd) (hy.trans hx.symm) h
    | (cases hx)
end
end Q
namespace Q
open PySem PySem.Spec PyProof.Rows L2 Evl
/-! tables of the module: dicts with text keys that nobody changes -/
theorem wrT_of {K : Frag} {a : Addr} {ws : List Str} (h : tupB K a ws = true) : WrT K a (ws.map V.str) := by
  unfold tupB at h
  cases q : K.lookup a with
  | none =>
    rw [q] at h
    cases h
  | some o =>
    obtain ⟨oc, od, dt, osl⟩ := o
    rw [q] at h
    cases oc with
    | type c =>
      cases dt with
      | seq its n =>
        obtain ⟨h1, h2⟩ := Bool.and_eq_true_iff.mp (show (decide (c = "tuple") && (decide (its.size ≤ 100) && eqStrs its.toList ws)) = true from h)
        obtain ⟨h3, h4⟩ := Bool.and_eq_true_iff.mp h2
        have e : c = "tuple" := of_decide_eq_true h1
        have e2 : its.size ≤ 100 := of_decide_eq_true h3
        subst e
        exact ⟨_, its, n, q, rfl, rfl, sz_of (by omega), eqStrs_ok h4⟩
      | _ => cases h
    | _ => cases dt <;> cases h
theorem strs_mapM : ∀ {ws : List W} {zs : List Str}, ws.mapM (fun w => match w with
    | W.str z => some z
    | _ => none) = some zs → ws = zs.map W.str
  | [], zs, h => by
    cases h
    rfl
  | w :: ws, zs, h => by
    rw [List.mapM_cons] at h
    cases w with
    | str z =>
      obtain ⟨us, h1, h2⟩ := Option.bind_eq_some_iff.mp (show (ws.mapM _ >>= fun us => pure (z :: us)) = some zs from h)
      cases h2
      rw [strs_mapM h1]
      rfl
    | _ => cases h
theorem tvB_ok {K : Frag} {w : W} {u : Value} (h : tvB K w u = true) : ∃ v, RelV v u ∧ ∀ H μ, Rw K H μ v w := by
  unfold tvB at h
  split at h
  · rename_i i j t
    exact ⟨.int i, ⟨t, by rw [of_decide_eq_true h]⟩, fun H μ => .int i⟩
  · rename_i z y t
    exact ⟨.str z, ⟨t, by rw [of_decide_eq_true h]⟩, fun H μ => .str z⟩
  · rename_i f t
    exact ⟨.ref t, rfl, fun H μ => by rw [of_decide_eq_true h]; exact .fn f⟩
  · rename_i ws t
    split at h
    · rename_i zs e
      refine ⟨.ref t, rfl, fun H μ => ?_⟩
      rw [strs_mapM e]
      exact .tup (.inr (wrT_of h)) (rw_strs zs)
    · cases h
  · cases h
structure TabQ (K : Frag) (w : World) (mg : Str → Option Value) (x : Str) (kvs : List (Str × W)) : Prop where
  g : mg x = some (.ref (He.ga K x))
  kd : ∃ es n, KDict K w (He.ga K x) es n
  out : ∀ z, z ∉ kvs.map (·.1) → PySem.W.nsIn K (He.ga K x) z = some none
  val : ∀ p ∈ kvs, ∃ u v, PySem.W.nsIn K (He.ga K x) p.1 = some (some u) ∧ RelV v u ∧ ∀ H μ, Rw K H μ v p.2
theorem ents_no {P : Params} {z : Str} : ∀ {l : List DictEntry} {ks : List Str}, l.map He.keyOf = He.keysIn P ks → z ∉ ks → l.find? (·.key.isStr z) = none ∧ l.any (·.refKey) = false
  | [], _, _, _ => ⟨rfl, rfl⟩
  | e :: r, [], h, _ => by cases h
  | e :: r, k :: ks, h, hz => by
    have h1 : He.keyOf e :: r.map He.keyOf = some (k, PyData.keyHash P k) :: He.keysIn P ks := h
    injection h1 with h2 h3
    obtain ⟨i1, i2⟩ := ents_no h3 fun q => hz (List.mem_cons_of_mem _ q)
    unfold He.keyOf at h2
    split at h2
    · rename_i x t q
      have h4 := Option.some.inj h2
      obtain ⟨h5, h6⟩ := Prod.mk.inj h4
      subst h5
      have hne : ¬ x = z := fun q => hz (q ▸ List.mem_cons_self)
      refine ⟨?_, ?_⟩
      · rw [List.find?_cons, q]
        have this : Value.isStr (.str x t) z = false := by
          show (x == z) = false; exact beq_false_of_ne hne
        simp [this, i1]
      · rw [List.any_cons, i2]
        simp [DictEntry.refKey, q]
    · cases h2
theorem dic_no {K : Frag} {w : World} {a : Addr} {ks : List Str} {z : Str} (h : He.dicW K a = some (He.keysIn w.params ks)) (hz : z ∉ ks) : PySem.W.nsIn K a z = some none := by
  unfold He.dicW at h
  cases q : K.lookup a with
  | none =>
    rw [q] at h
    cases h
  | some o =>
    obtain ⟨oc, od, dt, osl⟩ := o
    rw [q] at h
    cases oc with
    | type c =>
      cases od with
      | none =>
        cases dt with
        | dict es n =>
          have h1 : (match decide (c = "dict") && (osl.isEmpty && !(a == sysModules)) with
            | true => some (es.toList.map He.keyOf)
            | false => none) = some (He.keysIn w.params ks) := h
          cases zz : decide (c = "dict") && (osl.isEmpty && !(a == sysModules)) with
          | false =>
            rw [zz] at h1
            cases h1
          | true =>
            rw [zz] at h1
            obtain ⟨i1, i2⟩ := ents_no (Option.some.inj h1) hz
            unfold PySem.W.nsIn
            rw [q]
            show (match es.toList.find? (·.key.isStr z) with | some e => some (some e.val) | none => if es.toList.any (·.refKey) then none else some none) = some none
            rw [i1]
            show (if es.toList.any (·.refKey) then none else some none) = some none
            rw [i2]
            rfl
        | _ => cases h
      | some b => cases dt <;> cases h
    | _ => cases od <;> cases dt <;> cases h
theorem says_dic {fa : List He.Fa} {fn : List He.DefD} {ts : List He.Tab} {w : World} {K : Frag} (c : He.SaysT fa fn ts w K) (i : Nat) {t : He.Tab} (h : ts[i]? = some t := by rfl) : He.dicW K (t.1 K) = some (He.keysIn w.params t.2) := by
  have e : ts.map (fun t => He.dicW K (t.1 K)) = ts.map fun t => some (He.keysIn w.params t.2) := congrArg (fun z : He.AlT => z.2) c
  have e2 : (ts.map fun t => He.dicW K (t.1 K))[i]? = (ts.map fun t => some (He.keysIn w.params t.2))[i]? := by rw [e]
  rw [List.getElem?_map, List.getElem?_map, h] at e2
  exact Option.some.inj e2
theorem tabq_of {K : Frag} {w : World} {mg : Str → Option Value} {x : Str} {kvs : List (Str × W)} (G : mg x = some (.ref (He.ga K x))) (hd : He.dicW K (He.ga K x) = some (He.keysIn w.params (kvs.map (·.1)))) (hv : tabVB K x kvs = true) : TabQ K w mg x kvs := by
  refine ⟨G, He.dicW_ok hd, fun z hz => dic_no hd hz, fun p hp => ?_⟩
  have h := List.all_eq_true.mp hv p hp
  cases e : PySem.W.nsIn K (He.ga K x) p.1 with
  | none =>
    rw [e] at h
    cases h
  | some o =>
    rw [e] at h
    cases o with
    | none => cases h
    | some v =>
      obtain ⟨v', h1, h2⟩ := tvB_ok h
      exact ⟨v, v', rfl, h1, h2⟩
theorem lk_mem {β : Type} {f : Str} {x : β} : ∀ {l : List (Str × β)}, lk f l = some x → (f, x) ∈ l
  | (g, y) :: r, h => by
    unfold lk at h
    split at h
    · rename_i e
      cases h
      rw [e]
      exact List.mem_cons_self
    · exact List.mem_cons_of_mem _ (lk_mem h)
def wTin (x : Str) (kvs : List (Str × W)) (neg : Bool) : F2 := fun y t μ P => t = .fn x ∧ (match y with
  | .str z => P (.bl (if neg then !decide (z ∈ kvs.map (·.1)) else decide (z ∈ kvs.map (·.1)))) μ
  | _ => False)
def wTix (x : Str) (kvs : List (Str × W)) : F2 := fun t y μ P => t = .fn x ∧ (match y with
  | .str z => (match lk z kvs with
    | some w => P w μ
    | none => False)
  | _ => False)
theorem q_tin {x : Str} {kvs : List (Str × W)} {neg : Bool} {z : Str} {μ : Mu} {P : Po} (h : P (.bl (if neg then !decide (z ∈ kvs.map (·.1)) else decide (z ∈ kvs.map (·.1)))) μ) : wTin x kvs neg (.str z) (.fn x) μ P := ⟨rfl, h⟩
theorem q_tix {x : Str} {kvs : List (Str × W)} {z : Str} {w : W} {μ : Mu} {P : Po} (e : lk z kvs = some w) (h : P w μ) : wTix x kvs (.fn x) (.str z) μ P := ⟨rfl, by
  show (match lk z kvs with
    | some w => P w μ
    | none => False)
  rw [e]
  exact h⟩
section
variable {X : Cx} {E : L2.St → XK} {x : Str} {kvs : List (Str × W)} {p pos : Pos}
theorem qe_tab (T : TabQ X.K X.w X.mg x kvs) (hg : Gl X x) (hdb : (x == ("__debug__" : Str)) = false := by decide) : QE X E (.Name x p) (eC (.fn x)) := qe_of (v := .ref (He.ga X.K x)) (pe_glob hg T.g rfl hdb) fun _ _ => .fn x
theorem tin_ns (T : TabQ X.K X.w X.mg x kvs) (z : Str) : ∃ r, PySem.W.nsIn X.K (He.ga X.K x) z = some r ∧ r.isSome = decide (z ∈ kvs.map (·.1)) := by
  by_cases h : z ∈ kvs.map (·.1)
  · obtain ⟨q, hq, rfl⟩ := List.mem_map.mp h
    obtain ⟨u, v, e, _⟩ := T.val q hq
    exact ⟨some u, e, by rw [decide_eq_true h]; rfl⟩
  · exact ⟨none, T.out z h, by rw [decide_eq_false h]; rfl⟩
theorem opU_tnin (T : TabQ X.K X.w X.mg x kvs) : OpR X (compareOp .NotIn) (rW X.K (wTin x kvs true)) := by
  obtain ⟨es, n, D⟩ := T.kd
  refine opR_imp (op_notIn_kd D) fun y t H Q h => ?_
  obtain ⟨wx, wy, μ, P, rx, ry, m, ⟨e, h⟩, l⟩ := h
  subst e
  split at h
  · rename_i z
    cases ry
    obtain ⟨r, e1, e2⟩ := tin_ns T z
    refine ⟨z, r, rw_str rx, rfl, e1, ?_⟩
    rw [e2]
    exact l.now h m (.bl _)
  · exact h.elim
theorem ixU_tab (T : TabQ X.K X.w X.mg x kvs) : IxR X (rW X.K (wTix x kvs)) := by
  intro value slice pins s σ H a b v u Q I rx ry h hs
  refine ix_kdict value slice pins s σ H a b v u Q I rx ry ?_ hs
  obtain ⟨wx, wy, μ, P, rx, ry, m, ⟨e, h⟩, l⟩ := h
  subst e
  split at h
  · split at h
    · rename_i z _ w ew
      cases rx
      obtain ⟨es, n, D⟩ := T.kd
      obtain ⟨u0, v0, e1, e2, e3⟩ := T.val _ (lk_mem ew)
      exact ⟨_, z, v0, rfl, rw_str ry, ⟨es, n, u0, D.at_, D.lit, e1, e2⟩, l.now h m (e3 H μ)⟩
    · exact h.elim
  · exact h.elim
theorem qe_tix {a b : Expr} {fa fb : FE} (T : TabQ X.K X.w X.mg x kvs) (ha : QE X E a fa) (hb : QE X E b fb) (hs : PlainIx b) : QE X E (.Subscript a b pos) (eOp (wTix x kvs) fa fb) := ⟨(pe_ix (ixU_tab T) ha.pe hb.pe hs).qimp fun σ H Q h => tE_two (fun _ _ _ _ z => z) h⟩
/-! calls of a local name that holds one of some defs -/
def wCl (ds : List (Str × FW)) (w : Option W) (a : FA) : FE := fun ρ μ P X => match w with
  | some (.fn x) => (match lk x ds with
    | some f => a ρ μ (fun ws μ1 => f ws μ1 P X) X
    | none => False)
  | _ => False
@[reducible] def eCl (i : Nat) (ds : List (Str × FW)) (a : FA) : FE := fun ρ μ P X => wCl ds (gv ρ i) a ρ μ P X
theorem q_cl {ds : List (Str × FW)} {x : Str} {f : FW} {a : FA} {ρ : Rho} {μ : Mu} {P : Po} {X : Xo} (e : lk x ds = some f) (h : a ρ μ (fun ws μ1 => f ws μ1 P X) X) : wCl ds (some (.fn x)) a ρ μ P X := by
  show (match lk x ds with
    | some f => a ρ μ (fun ws μ1 => f ws μ1 P X) X
    | none => False)
  rw [e]
  exact h
def DefsQ (X : Cx) (k : Nat) (ds : List (Str × FW)) : Prop := ∀ x f, lk x ds = some f → X.mg x = some (.ref (He.ga X.K x)) ∧ ∃ ps, DefQ X.prog X.w X.K X.mg X.base k x ps f
theorem defsN {k : Nat} : DefsQ X k [] := fun x f e => by cases e
theorem DefQ.mono {P : Program} {w : World} {K : Frag} {mg : Str → Option Value} {base : Heap} {j k : Nat} {y : Str} {ps : List Str} {f : FW} (h : DefQ P w K mg base j y ps f) (l : j ≤ k) : DefQ P w K mg base k y ps f := by
  obtain ⟨a, fd, F, r⟩ := h.ex
  exact ⟨a, fd, F.mono l, r⟩
theorem defsC {k : Nat} {y : Str} {ps : List Str} {f : FW} {ds : List (Str × FW)} (g : X.mg y = some (.ref (He.ga X.K y))) (D : DefQ X.prog X.w X.K X.mg X.base k y ps f) (hs : DefsQ X k ds) : DefsQ X k ((y, f) :: ds) := fun x' f' e => by
  unfold lk at e
  split at e
  · rename_i q
    cases e
    exact ⟨q ▸ g, ps, q ▸ D⟩
  · exact hs x' f' e
theorem qe_cl {k i : Nat} {e : Expr} {es : List Expr} {fa : FA} {ds : List (Str × FW)} (px : Px X E) (D : DefsQ X k ds) (hr : Room k X.A) (hN : X.N[i]? = some x) (hv : Vis X.env.scope x) (ha : QA X E (e :: es) fa) (hdb : (x == ("__debug__" : Str)) = false := by decide) (hcd : (x == ("__classdict__" : Str)) = false := by decide)
    (he : starEach (e :: es) X.env = (false, eval e X.env) :: starEach es X.env := by rfl) (hpl : (backTo pos (starEach es X.env)).any (·.1) = false := by rfl) : QE X E (.Call (.Name x p) (e :: es) [] pos) (eCl i ds fa) := by
  refine ⟨⟨fun pins s σ H Q I h => ?_⟩⟩
  obtain ⟨ρ, μ, P, XX, hh, hm, hf, hvv, hx⟩ := h
  have hf : wCl ds (gv ρ i) fa ρ μ P XX := hf
  cases eg : gv ρ i with
  | none =>
    rw [eg] at hf
    exact hf.elim
  | some w =>
    rw [eg] at hf
    unfold wCl at hf
    cases w with
    | fn y =>
      have hf : (match lk y ds with
        | some f => fa ρ μ (fun ws μ1 => f ws μ1 P XX) XX
        | none => False) := hf
      cases ef : lk y ds with
      | none =>
        rw [ef] at hf
        exact hf.elim
      | some f =>
        rw [ef] at hf
        obtain ⟨gy, ps, DQ⟩ := D y f ef
        obtain ⟨a, fd, F, g, kp, b⟩ := DQ.ex
        have ea : a = He.ga X.K y := by
          rw [gy] at g
          cases g
          rfl
        subst ea
        obtain ⟨v, h1, h2⟩ := hh.2 i _ (gv_get eg)
        cases h2
        refine wpAny_Call_Name_kw (thn ((pe_var (pos := p) hN hv hdb hcd).run pins s σ H (fun v H1 => v = .ref (He.ga X.K y) ∧ H1 = H) I ⟨_, h1, rfl, rfl⟩) fun u s1 hu => ?_)
        obtain ⟨v, H1, I1, r1, ev, eh⟩ := hu
        subst ev eh
        cases r1
        refine PySem.W.callWith_K (h₀ := X.base) I1.ok.mod.kin kp (thn (ha.go pos I1 hh hm hf hx) fun us s2 ⟨vs, H2, ws, μ2, I2, r, p2, e2, m2, r2⟩ => ⟨I2.kIn, ?_⟩) he hpl
        exact run_fnSD (E := E) F hr b .nil (px σ) I2 r (sp_now r2 m2 p2 (hvv.stp e2) (hx.stp e2))
    | _ => exact hf.elim
end
theorem pf_hit {f : Str} {w x : W} {r : List (Str × W)} : pf f w ((f, x) :: r) = (f, w) :: r := by
  unfold pf
  rw [if_pos rfl]
theorem pf_skip {f g : Str} {w x : W} {r : List (Str × W)} (h : g ≠ f) : pf f w ((g, x) :: r) = (g, x) :: pf f w r := by
  rw [pf.eq_def]
  exact if_neg h
theorem pf_nil {f : Str} {w : W} : pf f w [] = [(f, w)] := rfl
/-- for x in xs: if p x: return r x -/
theorem itS_find {α : Type} {std : Mu → Prop} {g : FG} {b : FS} {N : En} {μ : Mu} (enc : α → W) (p : α → Bool) (r : α → W) (I : Rho → Prop) (hstd : std μ) : ∀ (xs : List α) {ρ : Rho}, I ρ →
    (∀ x ∈ xs, ∀ ρ, I ρ → ∀ K : Rho → Mu → Prop, (p x = false → ∀ ρ', I ρ' → K ρ' μ) → (p x = true → N.rt (r x) μ) → g (enc x) ρ μ fun ρ1 μ1 => b ρ1 μ1 { nx := K, ct := K, bk := N.nx, rt := N.rt, ex := N.ex }) →
    (xs.find? p = none → ∀ ρ', I ρ' → N.nx ρ' μ) → (∀ x, xs.find? p = some x → N.rt (r x) μ) → itS std g b (xs.map enc) ρ μ N
  | [], ρ, h0, hs, hn, hf => ⟨hstd, hn rfl ρ h0⟩
  | x :: xs, ρ, h0, hs, hn, hf => by
    refine ⟨hstd, hs x List.mem_cons_self ρ h0 _ (fun e ρ' h' => ?_) fun e => hf x (by rw [List.find?_cons, e])⟩
    refine itS_find enc p r I hstd xs h' (fun u hu => hs u (List.mem_cons_of_mem _ hu)) (fun a => hn (by rw [List.find?_cons, e]; exact a)) fun y a => hf y (by rw [List.find?_cons, e]; exact a)
theorem q_nisT {w : W} {A B : Prop} (h : isN w = false) (a : A) : if (!isN w) = true then A else B := q_t (by rw [h]; rfl) a
theorem q_nisF {w : W} {A B : Prop} (h : isN w = true) (b : B) : if (!isN w) = true then A else B := q_f (by rw [h]; rfl) b
end Q
namespace Q
open PySem PySem.Spec PyProof.Rows L2 Evl
/-! sorted(xs, key=lambda x: x[k]) -/
section
variable {prog : Program} {w : World} {A : Around} {s : Shared}
/-- the lambda x: x[k], called on a tuple -/
theorem lam_item {f t c' : Addr} {qual x : Str} {params : Arguments} {scope : Scope} {pm ctv : Value} {k : Nat} {j : Nat} {p1 p2 p3 : Pos} {items : Array Value} {u : Value} {d : PyData}
    (hof : s.heap.get? f = some (PySem.W.kla_obj "<lambda>" qual params (.Subscript (.Name x p1) (.Constant (.int (k : Int)) j p2) p3) scope [] pm c' ctv)) (hcd : s.heap.CodeRec (.ref c') qual) (hlim : s.heap.NoLimit) (hroom : A.depth < recursionLimit)
    (hb : ∀ v, bindArgs (PySem.W.kla_fn "<lambda>" qual params (.Subscript (.Name x p1) (.Constant (.int (k : Int)) j p2) p3) scope [] pm (.ref c') ctv) ⟨[v], []⟩ = pure [(x, v)])
    (hk : scope.kind = .function) (hco : scope.isCoroutine = false) (hgen : scope.isGenerator = false) (hx : scope.names.lookup x = some .local) (hcell : ∀ y ∈ scope.names, y.2 ≠ .cell) (hd : (x == ("__debug__" : Str)) = false)
    (ht : IsTup s.heap t items) (hk63 : (k : Int) < 2 ^ 63) (hj : items[k]? = some u) (hr : ∀ h', (∀ b o, s.heap.get? b = some o → h'.get? b = some o) → Reads h' u d []) :
    wpAny (model prog w) A (call (.ref f) [.ref t]) (PySem.W.KeyPure d s) (fun _ _ => False) s := by
  have rc : codeAny (model prog w) A (.call (.ref f) ⟨[.ref t], []⟩) (fun r s2 => ∃ v, r = .ok (.ret v) ∧ PySem.W.KeyPure d s v s2) s := by
    refine PySem.W.kla_callFunE hroom hof rfl hco hgen rfl hcd ?_
    rw [hb]
    refine wpAny_pure (wpAny_newFunctionEnv hcell (fun y hy => by rw [List.mem_singleton.mp hy]; exact hx) (fun h₁ hns hsb => ⟨hlim.fresh _ hsb, ?_⟩) hk)
    have kp : ∀ b o, s.heap.get? b = some o → h₁.get? b = some o := fun b o e => hsb.extBut b o (Nat.ne_of_lt (Heap.lt_size e)) (Heap.get?_push_of_some _ e)
    refine PySem.W.kla_codeExpr ?_
    refine Subscript_Constant (wpAny_Name (wpAny_loadName_local (v := .ref t) hk hx hns ?_ ?_) hd)
    · simp [List.lookup]
    · refine wpAny_Constant_int ?_
      have ht' : IsTup h₁ t items := ht.keeps kp
      refine ⟨"tuple", "tuple.__getitem__", slot_tuple_getitem.lookup, ht'.typeIs, ?_⟩
      have hsz : k < items.size := by
        obtain ⟨h, _⟩ := Array.getElem?_eq_some_iff.mp hj
        exact h
      refine getItem_tuple (j := k) ht' (by omega) hk63 (seqIndex_of (Int.natCast_nonneg k) (by omega)) hj ?_
      exact ⟨u, rfl, h₁, _, rfl, kp, hr h₁ kp⟩
  refine wpAny_call (codeAny_mono rc fun r s' hq => ?_)
  obtain ⟨v, rfl, hq⟩ := hq
  exact hq
end
/-- a key that is looked at: a text or a number -/
def datV : V → Option PyData
  | .str z => some (.str z)
  | .int i => some (.int i)
  | _ => none
theorem datV_reads {v : V} {u : Value} {d : PyData} {h : Heap} (e : datV v = some d) (r : RelV v u) : Reads h u d [] := by
  unfold datV at e
  split at e
  · cases e
    obtain ⟨t, rfl⟩ := (show ∃ t, u = Value.str _ t from r)
    exact .str _ _
  · cases e
    obtain ⟨t, rfl⟩ := (show ∃ t, u = Value.int _ t from r)
    exact .int _ _
  · cases e
theorem eachRelP : ∀ (bs : List (V × PyData)) {us : List Value}, Vals (bs.map (·.1)) us → PySem.W.EachIs (fun (u : Value) (v : V × PyData) => RelV v.1 u) us bs
  | [], _, h => by
    cases h
    exact .nil
  | b :: bs, _, h => by
    cases h with
    | cons a r => exact .cons a (eachRelP bs r)
theorem vals_eachP {bs : List (V × PyData)} {us : List Value} (h : PySem.W.EachIs (fun (u : Value) (v : V × PyData) => RelV v.1 u) us bs) : Vals (bs.map (·.1)) us := by
  induction h with
  | nil => exact .nil
  | cons a b ih => exact .cons a ih
/-! ### a lambda made: only the maker's own table is written -/
/-- all but the object at P stays -/
def Ext1 (P : Addr) (H H' : Hp) : Prop := ∀ b o, b ≠ P → H b = some o → H' b = some o
section
variable {X : Cx} {pins : List (Addr × Obj)} {σ : L2.St} {H : Hp} {s : Shared}
theorem lam_make3 {c P : Addr} {params : Arguments} {body : Expr} {scope : Scope} {pos : Pos} {E : Value → Shared → Prop} {Q : Value → Shared → Prop} (I : Inv X pins σ H s) (TB : LamX.TabB X.base X.mg c P) (hcode : X.env.code = .ref c)
    (hT : LamX.TabS H P (X.env.qual ++ "<lambda>")) (hdef : defaultsOf params X.env = ([], [])) (hfree : ∀ y ∈ scope.names, y.2 = .free → ∃ c, X.env.cells.lookup y.1 = some c)
    (h : ∀ (f c' : Addr) (pm ctv : Value) (H1 : Hp) (s' : Shared), Inv X pins σ H1 s' → Ext1 P H H1 → LamX.TabS H1 P (X.env.qual ++ "<lambda>") →
      s'.heap.get? f = some (PySem.W.kla_obj "<lambda>" (X.env.qual ++ "<lambda>") params body scope (cloFrom X.env.cells scope.names []) pm c' ctv) → H1 c' = some (LamX.CodeO c' (X.env.qual ++ "<lambda>")) → Q (.ref f) s') :
    wpAny (model X.prog X.w) X.A (eval (.Lambda params body scope pos) X.env) Q E s := by
  have hT0 := hT
  obtain ⟨ps, hP, ht, ha⟩ := hT
  have here : s.heap.get? P = some { cls := .none, data := .fields ps } := I.hok P _ hP
  refine PySem.W.kla_eval hdef ?_
  cases hc : codeAmong pos ps.toList with
  | some cv =>
    obtain ⟨c', rfl, hco⟩ := ha pos cv hc
    exact PySem.W.kla_makeFunctionHit (mg := X.mg) (c := c) (P := P) (ps := ps) (closure_ok hfree) I.ok.glob (I.mod.glob.keeps I.bk) hcode (TB.code.keeps I.bk) here ht hc (TB.bm.keeps I.bk) fun ctv h' tk hx hsz =>
      h h'.objs.size c' _ ctv H _ (I.kept fun b o e => Heap.get?_push_of_some _ (hx b o e)) (fun _ _ _ e => e) hT0 (Heap.get?_push_size _ rfl) hco
  | none =>
    refine PySem.W.kla_makeFunction (mg := X.mg) (c := c) (P := P) (ps := ps) (closure_ok hfree) I.ok.glob (I.mod.glob.keeps I.bk) hcode (TB.code.keeps I.bk) here ht hc TB.gP (TB.bm.keeps I.bk) fun c' ctv h' tk hx hge hlt hrec htb => ?_
    obtain ⟨c2, oc, vs, t, e2, hoc, hd, hv⟩ := hrec
    cases e2
    have nC : H c' = none := I.hok.fresh hge
    have J := LamX.inv_table (t' := tk) (more := #[rawInt pos.line, rawInt pos.col, .ref c']) (h' := h'.push (PySem.W.kla_obj "<lambda>" (X.env.qual ++ "<lambda>") params body scope (cloFrom X.env.cells scope.names []) ((X.mg "__name__").getD .none) c' ctv)) I hP
      (fun b o hb e => Heap.get?_push_of_some _ (hx b o hb e)) (Heap.get?_push_of_some _ htb) hge ⟨oc, vs, t, Heap.get?_push_of_some _ hoc, hd, hv⟩
    have kp : Ext1 P H (upd (upd H P (.tbl (ps ++ #[rawInt pos.line, rawInt pos.col, .ref c']))) c' (LamX.CodeO c' (X.env.qual ++ "<lambda>"))) := fun b o n e => by
      rw [upd_ne (ne_of_none e nC), upd_ne n]
      exact e
    refine h h'.objs.size c' _ ctv _ _ J kp ⟨_, by rw [upd_ne (ne_of_none hP nC), upd_same], ?_, fun p' cv hcv => ?_⟩ (Heap.get?_push_size _ rfl) upd_same
    · rw [Array.toList_append]
      exact PySem.TriplesOk_snoc _ _ _ _ ht
    · rw [Array.toList_append] at hcv
      rcases LamX.among_app _ ht hcv with z | z
      · obtain ⟨d, e1, e2⟩ := ha p' cv z
        exact ⟨d, e1, kp _ _ (fun y => LamX.codeO_ne ps (Option.some.inj (by rw [← e2, y, hP]))) e2⟩
      · exact ⟨c', z, upd_same⟩
end
/-- sorted(x, key=lambda y: y[k]): what is told -/
def tSrtI (K : Frag) (PT : Addr) (qn : Str) (k : Nat) (t : TA) : TE := fun σ H Q => t σ H fun vs H1 => ∃ (a : Addr) (bs : List (V × PyData)), vs = [.ref a] ∧ SqL K H1 a (bs.map (·.1)) ∧ LamX.TabS H1 PT qn ∧
  (∀ x ∈ bs, ∃ (q : Addr) (its : List V) (y : V), x.1 = .ref q ∧ SqT K H1 q its ∧ its[k]? = some y ∧ datV y = some x.2) ∧ PySem.W.AllAlike (bs.map (·.2)) ∧
  ∀ H2, Ext1 PT H1 H2 → LamX.TabS H2 PT qn → ∀ p, H2 p = none → Q (.ref p) (upd H2 p (.lst ((bs.mergeSort (PySem.W.dataLe false (·.2))).map (·.1))))
section
variable {X : Cx} {c P : Addr} {x : Str} {e : Expr} {ta : TA} {params : Arguments} {scope : Scope} {k j : Nat} {p1 p2 p3 lpos kpos p pos : Pos}
theorem pe_sortI (TB : LamX.TabB X.base X.mg c P) (hcode : X.env.code = .ref c) (hr : X.A.depth + 3 < recursionLimit) (hun : X.A.units + 64 < cLine)
    (hg : Gl X "sorted") (hm : X.mg "sorted" = none) (ha : PA X [e] ta)
    (hdef : defaultsOf params X.env = ([], [])) (hb : ∀ (qual : Str) (pm cdv ctv v : Value), bindArgs (PySem.W.kla_fn "<lambda>" qual params (.Subscript (.Name x p1) (.Constant (.int (k : Int)) j p2) p3) scope [] pm cdv ctv) ⟨[v], []⟩ = pure [(x, v)])
    (hk : scope.kind = .function) (hco : scope.isCoroutine = false) (hgen : scope.isGenerator = false) (hx : scope.names = [(x, .local)]) (hd : (x == ("__debug__" : Str)) = false) (hk63 : (k : Int) < 2 ^ 63)
    (he : backTo pos (starEach [e] X.env) = (false, eval e X.env) :: backTo pos (starEach [] X.env) := by rfl) (hpl : (backTo pos (starEach [e] X.env)).any (·.1) = false := by rfl) :
    PE X (.Call (.Name "sorted" p) [e] [⟨some "key", .Lambda params (.Subscript (.Name x p1) (.Constant (.int (k : Int)) j p2) p3) scope lpos, kpos⟩] pos) (tSrtI X.K P (X.env.qual ++ "<lambda>") k ta) := by
  refine ⟨fun pins s σ H Q I h => ?_⟩
  refine wpAny_Call_Name_kw (ld_blt I hg hm (by decide +kernel : bootBuiltins "sorted" = some (.builtin "sorted")) ?_ (by decide) (by decide))
  refine PyProof.Rows.callWith_kw (thn (ha.run pos pins s σ H _ I h) fun us s1 hh => ?_) he hpl rfl rfl
  obtain ⟨vs, H1, I1, r1, a, bs, rfl, hs, hT, hks, hal, q⟩ := hh
  obtain rfl := Vals.ref1 r1
  have hfree : ∀ y ∈ scope.names, y.2 = .free → ∃ c, X.env.cells.lookup y.1 = some c := fun y hy e => by
    rw [hx, List.mem_singleton] at hy
    rw [hy] at e
    cases e
  show wpAny _ _ (evalAll ((do let v ← eval (.Lambda params (.Subscript (.Name x p1) (.Constant (.int (k : Int)) j p2) p3) scope lpos) X.env; standAt pos; pure v) :: [])) _ _ s1
  refine wpAny_evalAll_cons (wpAny_bind (lam_make3 I1 TB hcode hT hdef hfree fun f c' pm ctv H2 s2 I2 hE hT2 hof hco' => wpAny_bind (wpAny_standAt (wpAny_pure (wpAny_evalAll_nil ?_)))))
  have hcl : cloFrom X.env.cells scope.names [] = [] := by
    rw [hx]
    rfl
  rw [hcl] at hof
  have rdL2 : ∀ {b : Addr} {u : HO}, (∀ ps, u ≠ .tbl ps) → Rd H1 b u → Rd H2 b u := fun {b u} n r => by
    have nP : ∀ {o : HO}, (∀ ps, o ≠ .tbl ps) → H1 b = some o → b ≠ P := fun {o} m e y => by
      obtain ⟨ps, hP, _⟩ := hT
      rw [y, hP] at e
      exact m ps (Option.some.inj e).symm
    rcases r with r | ⟨o, r⟩
    · exact .inl (hE _ _ (nP n r) r)
    · exact .inr ⟨o, hE _ _ (nP (fun ps z => by cases z) r) r⟩
  have hs2 : SqL X.K H2 a (bs.map (·.1)) := by
    rcases hs with h | h
    · exact .inl (rdL2 (fun ps z => by cases z) h)
    · exact .inr h
  obtain ⟨its, rv, pl, hz2⟩ := I2.list hs2
  show wpAny _ _ (call (.builtin "sorted") [.ref a] [(Str.ofString "key", .ref f)]) _ _ s2
  have hdep : ∀ x ∈ bs, x.2.depth ≤ 1 := fun x hx => by
    obtain ⟨q, it, y, _, _, _, e⟩ := hks x hx
    unfold datV at e
    split at e
    · rw [← Option.some.inj e]
      exact Nat.le_of_ble_eq_true rfl
    · rw [← Option.some.inj e]
      exact Nat.le_of_ble_eq_true rfl
    · cases e
  refine PySem.W.sorted_key_data (R := fun (u : Value) (v : V × PyData) => RelV v.1 u) (bs := bs) (vs := its) (f := .ref f) (b := false) (·.2) pl.isList (eachRelP bs rv) hal (.inr fun d hd => ?_) (by rw [List.length_map] at hz2; exact hz2) (fun x hx => ?_) (PyProof.Rows.ksk_s1 _ _) (fun _ => PyProof.Rows.ksk_l1 _ _) (fun _ => PyProof.Rows.ksk_t1 _ _) (fun v y hR hy h tk kp => ?_) fun out ep h' tk kp fr hD hl hEa => ?_
  · obtain ⟨x, hx, rfl⟩ := List.mem_map.mp hd
    obtain ⟨q, it, y, _, _, _, e⟩ := hks x hx
    unfold datV at e
    split at e
    · rw [← Option.some.inj e]
      exact ⟨fun z => (by cases z), fun xs z => (by cases z)⟩
    · rw [← Option.some.inj e]
      exact ⟨fun z => (by cases z), fun xs z => (by cases z)⟩
    · cases e
  · have := hdep x hx
    omega
  · obtain ⟨t, it, z, ey, hq, hz, he⟩ := hks y hy
    have hR : RelV y.1 v := hR
    rw [ey] at hR
    obtain rfl : v = Value.ref t := hR
    have hq2 : SqT X.K H2 t it := by
      rcases hq with h | h
      · exact .inl (rdL2 (fun ps z => by cases z) h)
      · exact .inr h
    have I3 : Inv X pins σ H2 { s2 with heap := h, toks := tk } := I2.kept (t' := tk) kp
    obtain ⟨its3, r3, pl3, hz3⟩ := I3.tuple hq2
    obtain ⟨w', ew, rw'⟩ := r3.get hz
    obtain ⟨⟨oc, vs, t', hoc, hdc, hvc⟩, _, _⟩ := I3.hok c' _ hco'
    refine lam_item (d := y.2) (kp _ _ hof) ⟨c', oc, vs, t', rfl, hoc, hdc, hvc⟩ I3.nolimit ?_ (fun v => hb _ _ _ _ v) hk hco hgen (by rw [hx]; simp [List.lookup]) (fun y hy => ?_) hd pl3 hk63 (by simpa using ew) fun h2 k2 => datV_reads he rw'
    · show X.A.depth < recursionLimit
      omega
    · rw [hx, List.mem_singleton] at hy
      rw [hy]
      exact fun z => by cases z
  · have hv := vals_eachP hEa
    have hl2 : ((bs.mergeSort (PySem.W.dataLe false (·.2))).map (·.1)).length ≤ sizeLine := by
      rw [List.length_map, List.length_mergeSort]
      rw [List.length_map] at hz2
      exact hz2
    exact ⟨.ref _, upd H2 (s2.heap.objs.size + 1) (.lst ((bs.mergeSort (PySem.W.dataLe false (·.2))).map (·.1))), I2.laid (t' := tk) kp (Nat.le_succ _) ⟨hl2, out, ep, hv, hD⟩, rfl, q H2 hE hT2 _ (I2.hok.fresh (Nat.le_succ _))⟩
end
/-! ### over W -/
def datW : W → Option PyData
  | .str z => some (.str z)
  | .int i => some (.int i)
  | _ => none
theorem datW_V {K : Frag} {H : Hp} {μ : Mu} {v : V} {w : W} {d : PyData} (r : Rw K H μ v w) (e : datW w = some d) : datV v = some d := by
  unfold datW at e
  split at e
  · rw [rw_str r]
    exact e
  · rw [rw_int r]
    exact e
  · cases e
theorem tri_of {K : Frag} {H : Hp} {μ : Mu} : ∀ {bs : List (W × PyData)} {vs : List V}, RwAll K H μ vs (bs.map (·.1)) → ∃ tri : List (V × (W × PyData)), vs = tri.map (·.1) ∧ bs = tri.map (·.2) ∧ ∀ t ∈ tri, Rw K H μ t.1 t.2.1
  | [], _, h => by
    cases h
    exact ⟨[], rfl, rfl, fun _ z => by cases z⟩
  | b :: bs, _, h => by
    cases h with
    | cons a r =>
      obtain ⟨tri, h1, h2, h3⟩ := tri_of r
      exact ⟨(_, b) :: tri, by rw [h1]; rfl, by rw [h2]; rfl, fun t ht => by
        rcases List.mem_cons.mp ht with rfl | ht
        · exact a
        · exact h3 t ht⟩
theorem tri_rw {K : Frag} {H : Hp} {μ : Mu} : ∀ {tri : List (V × (W × PyData))}, (∀ t ∈ tri, Rw K H μ t.1 t.2.1) → RwAll K H μ (tri.map fun t => t.1) (tri.map fun t => t.2.1)
  | [], _ => .nil
  | t :: r, h => .cons (h t List.mem_cons_self) (tri_rw fun x hx => h x (List.mem_cons_of_mem _ hx))
/-- by the keys, those of equal keys in their order -/
def sortK (bs : List (W × PyData)) : List W := (bs.mergeSort (PySem.W.dataLe false (·.2))).map (·.1)
/-- the item k of each row is its key -/
def KeyI (k : Nat) (bs : List (W × PyData)) : Prop := ∀ b ∈ bs, ∃ its y, b.1 = .tup its ∧ its[k]? = some y ∧ datW y = some b.2
@[reducible] def eSrtI (p : Str × Option Str) (q : Str) (k : Nat) (a : FA) : FE := fun ρ μ P X => a ρ μ (fun ws μ1 => match ws with
  | [w] => ∃ (Pt : Addr) (bs : List (W × PyData)), μ1 Pt = some (.tb p q) ∧ rdL μ1 w = some (bs.map (·.1)) ∧ KeyI k bs ∧ PySem.W.AllAlike (bs.map (·.2)) ∧ P (.lst (sortK bs)) μ1
  | _ => False) X
/-- the table is written: what is not tracked stands, what is tracked is told as before -/
theorem tab_stp {K : Frag} {μ : Mu} {H H2 : Hp} {P : Addr} {p : Str × Option Str} {q : Str} (h : μ P = some (.tb p q)) (m : Mem K H μ) (hE : Ext1 P H H2) : Stp μ H μ H2 := by
  obtain ⟨_, ps, hP, _⟩ := m _ _ h
  refine ⟨fun a o e n => ⟨hE a o (fun z => ?_) e, n⟩, fun a o u e => hE a _ (fun z => ?_) e⟩
  · rw [z, h] at n
    cases n
  · rw [z, hP] at e
    cases e
theorem tab_mem {K : Frag} {μ : Mu} {H H2 : Hp} {P : Addr} {p : Str × Option Str} {q : Str} (h : μ P = some (.tb p q)) (m : Mem K H μ) (hE : Ext1 P H H2) (hT : LamX.TabS H2 P q) : Mem K H2 μ := by
  refine m.step (tab_stp h m hE) fun b o e => ?_
  obtain ⟨u, hu⟩ := (m b o e).there
  by_cases hb : b = P
  · rw [hb, h] at e
    cases e
    obtain ⟨ea, ps, hP, _⟩ := m _ _ h
    obtain ⟨ps', h1, h2, h3⟩ := hT
    rw [hb]
    refine .inr ⟨ea, ps', h1, h2, fun pos cv hc => ?_⟩
    obtain ⟨c, e1, e2⟩ := h3 pos cv hc
    refine ⟨c, e1, e2, ?_⟩
    cases z : μ c with
    | none => rfl
    | some o2 =>
      exfalso
      have nP : c ≠ P := fun y => by
        rw [y, h1] at e2
        exact LamX.codeO_ne _ (Option.some.inj e2).symm
      have r := m c o2 z
      cases o2 with
      | ls ws =>
        obtain ⟨vs, q1, _⟩ := r
        rw [hE _ _ nP q1] at e2
        cases e2
      | dk kvs =>
        obtain ⟨vs, q1, _⟩ := r
        rw [hE _ _ nP q1] at e2
        cases e2
      | rk kvs =>
        obtain ⟨o, vs, q1, _⟩ := r
        rw [hE _ _ nP q1] at e2
        cases e2
      | dt kvs =>
        obtain ⟨vs, q1, _⟩ := r
        rw [hE _ _ nP q1] at e2
        cases e2
      | ins x fs =>
        obtain ⟨dx, fv, q1, _⟩ := r
        rw [hE _ _ nP q1] at e2
        cases e2
      | tb p y =>
        obtain ⟨_, ps, q1, _⟩ := r
        rw [hE _ _ nP q1] at e2
        cases e2
  · exact .inl ⟨e, by rw [hE _ _ hb hu, hu]⟩
section
variable {X : Cx} {E : L2.St → XK} {p : Str × Option Str} {q : Str} {x : Str} {e : Expr} {fa : FA} {params : Arguments} {scope : Scope} {k j : Nat} {p1 p2 p3 lpos kpos p4 pos : Pos}
theorem qe_sortI (TB : LamX.TabB X.base X.mg (He.cT X.K p).1 (He.cT X.K p).2) (hcode : X.env.code = .ref (He.cT X.K p).1) (hq : q = X.env.qual ++ "<lambda>") (hr : X.A.depth + 3 < recursionLimit) (hun : X.A.units + 64 < cLine)
    (hg : Gl X "sorted") (hm : X.mg "sorted" = none) (ha : QA X E [e] fa)
    (hdef : defaultsOf params X.env = ([], []) := by rfl) (hb : ∀ (qual : Str) (pm cdv ctv v : Value), bindArgs (PySem.W.kla_fn "<lambda>" qual params (.Subscript (.Name x p1) (.Constant (.int (k : Int)) j p2) p3) scope [] pm cdv ctv) ⟨[v], []⟩ = pure [(x, v)] := by intros; rfl)
    (hk : scope.kind = .function := by rfl) (hco : scope.isCoroutine = false := by rfl) (hgen : scope.isGenerator = false := by rfl) (hx : scope.names = [(x, .local)] := by rfl) (hd : (x == ("__debug__" : Str)) = false := by decide) (hk63 : (k : Int) < 2 ^ 63 := by decide)
    (he : backTo pos (starEach [e] X.env) = (false, eval e X.env) :: backTo pos (starEach [] X.env) := by rfl) (hpl : (backTo pos (starEach [e] X.env)).any (·.1) = false := by rfl) :
    QE X E (.Call (.Name "sorted" p4) [e] [⟨some "key", .Lambda params (.Subscript (.Name x p1) (.Constant (.int (k : Int)) j p2) p3) scope lpos, kpos⟩] pos) (eSrtI p q k fa) := ⟨(pe_sortI TB hcode hr hun hg hm ha.pa hdef hb hk hco hgen hx hd hk63 he hpl).qimp fun σ H Q h => by
  subst hq
  obtain ⟨ρ, μ, P, XX, hh, hm, hf, hv, hx⟩ := h
  refine ⟨ρ, μ, _, XX, hh, hm, hf, fun ws μ1 vs H1 y1 e1 m1 r1 => ?_, hx⟩
  split at y1
  · obtain ⟨Pt, bs, h1, h2, h3, h4, h5⟩ := y1
    obtain ⟨v, rfl, r2⟩ := r1.one
    obtain ⟨a, us, rfl, hq, hs⟩ := rdL_at h2 r2 m1
    obtain ⟨tri, rfl, rfl, ht⟩ := tri_of hs
    obtain ⟨eP, ps, hP, hok, hc⟩ := m1 _ _ h1
    subst eP
    have eM : (tri.map fun t => (t.1, t.2.2)).map (·.1) = tri.map (·.1) := by simp
    have eD : (tri.map fun t => (t.1, t.2.2)).map (·.2) = (tri.map (·.2)).map (·.2) := by simp
    refine ⟨a, tri.map fun t => (t.1, t.2.2), rfl, by rw [eM]; exact hq, ⟨ps, hP, hok, fun pos cv z => (hc pos cv z).imp fun c z => ⟨z.1, z.2.1⟩⟩, fun b hb => ?_, by rw [eD]; exact h4, fun H2 hE hT p hp => ?_⟩
    · obtain ⟨t, hm, rfl⟩ := List.mem_map.mp hb
      obtain ⟨its, y, z1, z2, z3⟩ := h3 t.2 (List.mem_map.mpr ⟨t, hm, rfl⟩)
      have r := ht t hm
      rw [z1] at r
      obtain ⟨v1, w1, d1⟩ := t
      cases r with
      | tup g gs =>
        obtain ⟨u, g1, g2⟩ := gs.at _ z2
        exact ⟨_, _, u, rfl, tup_sq g, g1, datW_V g2 z3⟩
    · have e2 := tab_stp h1 m1 hE
      have m2 := tab_mem h1 m1 hE hT
      have s1 : ((tri.map fun t => (t.1, t.2.2)).mergeSort (PySem.W.dataLe false (·.2))).map (·.1) = (tri.mergeSort (PySem.W.dataLe false (·.2.2))).map fun t => t.1 := by
        have z := List.map_mergeSort (l := tri) (f := fun t => (t.1, t.2.2)) (r := PySem.W.dataLe false (·.2.2)) (s := PySem.W.dataLe false (·.2)) fun _ _ _ _ => rfl
        rw [← z, List.map_map]
        rfl
      have s2 : sortK (tri.map (·.2)) = (tri.mergeSort (PySem.W.dataLe false (·.2.2))).map fun t => t.2.1 := by
        unfold sortK
        have z := List.map_mergeSort (l := tri) (f := fun t => t.2) (r := PySem.W.dataLe false (·.2.2)) (s := PySem.W.dataLe false (·.2)) fun _ _ _ _ => rfl
        rw [← z, List.map_map]
        rfl
      rw [s2] at h5
      rw [s1]
      exact (hv.stp (e1.trans e2)).lst h5 m2 (tri_rw fun t z => (ht t ((List.mergeSort_perm _ _).mem_iff.mp z)).stp e2) hp
  · exact y1.elim⟩
end
end Q
namespace Q
open PySem PySem.Spec PyProof.Rows L2 Evl
/-! defs that make lambdas: their code object is known; a law that starts with the tables -/
section
variable {P : Program} {w : World} {K : Frag} {mg : Str → Option Value} {base : Heap}
theorem fn_wC {p : Str × Option Str} {x qual : Str} {st : Stmt} {fd : FuncData} {N ps : List Str} {k : Nat} {fb : FS} (F : FnM K x qual st (He.fAd K p) fd) (S : FnScope N ps (defScope st)) (hl : ps.length ≤ N.length)
    (body : ∀ (A : Around) (outer : List PySem.Env) (s : Shared) (H : Hp) (E : XK), Room k (A.deeper (PyProof.Rows.envOfC qual (defScope st) s.heap.objs.size (He.fAd K p) (.ref (He.cT K p).1))) → Tk (cxOf (L2N.CX P w) P w K mg base N qual (defScope st) (He.fAd K p) (.ref (He.cT K p).1) A outer s H E) (fun _ => E) →
      PassesOwn (model P w) (cxOf (L2N.CX P w) P w K mg base N qual (defScope st) (He.fAd K p) (.ref (He.cT K p).1) A outer s H E).A (cxOf (L2N.CX P w) P w K mg base N qual (defScope st) (He.fAd K p) (.ref (He.cT K p).1) A outer s H E).env (cxOf (L2N.CX P w) P w K mg base N qual (defScope st) (He.fAd K p) (.ref (He.cT K p).1) A outer s H E).xe →
      (∀ hd : Option Value, PassesOwnAt (model P w) ((cxOf (L2N.CX P w) P w K mg base N qual (defScope st) (He.fAd K p) (.ref (He.cT K p).1) A outer s H E).A.mark hd) (cxOf (L2N.CX P w) P w K mg base N qual (defScope st) (He.fAd K p) (.ref (He.cT K p).1) A outer s H E).A (cxOf (L2N.CX P w) P w K mg base N qual (defScope st) (He.fAd K p) (.ref (He.cT K p).1) A outer s H E).env (cxOf (L2N.CX P w) P w K mg base N qual (defScope st) (He.fAd K p) (.ref (He.cT K p).1) A outer s H E).xe) →
      QSs (cxOf (L2N.CX P w) P w K mg base N qual (defScope st) (He.fAd K p) (.ref (He.cT K p).1) A outer s H E) (fun _ => E) (defBody st) fb) : FnOk P w K mg base (L2N.CX P w) (k + 1) (He.fAd K p) fd ps (spF K (fDef ps.length N.length fb)) := by
  obtain ⟨oc, od, dV, kV, doc, pm, an, cdv, ct, osl, rfl, lk, hcd, _, _⟩ := F.ex
  obtain ⟨c, rfl⟩ := He.codeIn_ref hcd
  have ec : (He.cT K p).1 = c := He.codeOf_eq lk rfl
  rw [ec] at body
  refine fn_of lk hcd S (fun vs H Q E h => ?_) fun A outer s H vs Q E hr h => ?_
  · obtain ⟨ws, μ, Pq, X, h1, _, h2, _⟩ := h
    rw [h1.len]
    exact h2.1
  · obtain ⟨ws, μ, Pq, X, h1, hm, h2, v, x⟩ := h
    have h0 := Holds.start (N := N) h1
    rw [← rho0_is _ _ (by rw [h2.1]; exact hl)] at h0
    exact ⟨_, (body A outer s H E hr (L2N.takes_of rfl rfl rfl rfl) PassesOwn.leaving fun _ => PassesOwnAt.leaving).pss, _, μ, _, h0, hm, h2.2, el_def v x⟩
end
/-- what a law is to do, at every script, with the tables of these defs -/
def LawOkT (tf : List ((Str × Option Str) × Str)) (f : FW) (n : Nat) : Prop := ∀ ns : List Int, ns.length ≤ n → ∀ μ : Mu, (∀ p ∈ tf, ∃ a, μ a = some (.tb p.1 p.2)) → ∀ (P : Po) (X : Xo), (∀ μ, P (.bl true) μ) → f [.rol (ns.map W.int)] μ P X
/-- the tables stand apart -/
def muT (K : Frag) (tf : List ((Str × Option Str) × Str)) : Mu := fun b => (tf.find? fun p => decide ((He.cT K p.1).2 = b)).map fun p => .tb p.1 p.2
theorem muT_in {K : Frag} {b : Addr} {o : O} : ∀ {tf : List ((Str × Option Str) × Str)}, muT K tf b = some o → ∃ p ∈ tf, (He.cT K p.1).2 = b ∧ o = .tb p.1 p.2 := fun {tf} h => by
  unfold muT at h
  obtain ⟨p, h1, h2⟩ := Option.map_eq_some_iff.mp h
  have h3 := List.find?_some h1
  exact ⟨p, List.mem_of_find?_eq_some h1, of_decide_eq_true h3, h2.symm⟩
theorem muT_at {K : Frag} : ∀ {tf : List ((Str × Option Str) × Str)}, (tf.map fun p => (He.cT K p.1).2).Nodup → ∀ p ∈ tf, muT K tf (He.cT K p.1).2 = some (.tb p.1 p.2)
  | [], _, _, h => by cases h
  | y :: r, nd, p, h => by
    obtain ⟨h1, h2⟩ := List.nodup_cons.mp nd
    rcases List.mem_cons.mp h with rfl | h
    · unfold muT
      rw [List.find?_cons_of_pos (by simp)]
      rfl
    · have ne : (He.cT K y.1).2 ≠ (He.cT K p.1).2 := fun e => h1 (List.mem_map.mpr ⟨p, h, e.symm⟩)
      have ih := muT_at h2 p h
      unfold muT at ih ⊢
      rw [List.find?_cons_of_neg (by simpa using ne)]
      exact ih
theorem law_endT {K : Frag} {H : Hp} {a : Addr} {ns : List Int} {n : Nat} {f : FW} {tf : List ((Str × Option Str) × Str)} (hn : noLst K = true) (hd : tabNd K tf = true) (hT : ∀ p ∈ tf, H (He.cT K p.1).2 = some (.tbl #[])) (hl : ns.length ≤ n) (h : SqL K H a (ns.map V.int)) (ok : LawOkT tf f n) : spL K f [.ref a] H (fun v _ => v = .bl true) (fun _ _ _ => False) := by
  have r : Rd H a (.lst (ns.map V.int)) := by
    rcases h with h | ⟨o, its, n, e, c, _⟩
    · exact h
    · exact absurd c (noLst_no hn e)
  have m0 : Mem K H (muT K tf) := fun b o q => by
    obtain ⟨p, hp, rfl, rfl⟩ := muT_in q
    exact ⟨rfl, #[], hT p hp, True.intro, fun pos cv z => by simp [codeAmong] at z⟩
  have na : muT K tf a = none := by
    cases q : muT K tf a with
    | none => rfl
    | some o =>
      obtain ⟨p, hp, rfl, _⟩ := muT_in q
      have t := hT p hp
      rcases r with r | ⟨o, r⟩ <;> (rw [t] at r; cases r)
  refine ⟨[.rol (ns.map W.int)], muT K tf, fun w _ => w = .bl true, .cons (.rol ⟨r, na⟩ (rw_ints ns)) .nil, m0, ok ns hl _ (fun p hp => ⟨_, muT_at (of_decide_eq_true hd) p hp⟩) _ _ (fun _ => rfl), fun w μ' v H' p _ _ d => ?_⟩
  have p : w = .bl true := p
  subst p
  exact rw_bl d
theorem srt_dp {k : Nat} {A : Around} (hr : Room k A) : A.depth + 3 < recursionLimit := by
  have := hr.dp
  omega
theorem srt_un {k : Nat} {A : Around} (hr : Room k A) : A.units + 64 < cLine := by
  have := hr.un
  omega
/-- the law at the head: the tables are empty -/
theorem lawAtT {l : PySem.W.OpenLaw} {w : World} {K : Frag} {k n : Nat} {x : Str} {mg : Str → Option Value} {fa : Addr} {h : Heap} {fd : FuncData} {f : FW} (tf : List ((Str × Option Str) × Str)) (X : K.In h) (hn : noLst K = true) (hd : tabNd K tf = true)
    (hh : ∀ p ∈ tf, PySem.W.codeHdIn K (He.cT K p.1).1 (He.cT K p.1).2 = true) (ho : ∀ p ∈ tf, K.lookup (He.cT K p.1).2 = none) (he : ∀ p ∈ tf, h.get? (He.cT K p.1).2 = some { cls := .none, data := .fields #[] })
    (hb : ∀ (s : Shared) (u : Value), BindsTo s fd ⟨[u], []⟩ [(x, u)]) (ok : LawOkT tf f n) (hF : ∀ base : Heap, K.In base → base.Ns mainGlobals mg → (∀ p ∈ tf, LamX.TabB base mg (He.cT K p.1).1 (He.cT K p.1).2) → FnOk l.prog w K mg base CX0 k fa fd [x] (spL K f)) : LamX.LawAtS l w K CX0 k n x mg fa h := by
  refine ⟨fd, tf.map fun p => He.cT K p.1, spL K f, fun p hp => ?_, fun p hp => ?_, fun p hp => ?_, hb, fun H a ns hl _ hT hS => law_endT hn hd (fun p hp => hT _ (List.mem_map.mpr ⟨p, hp, rfl⟩)) hl hS ok, fun base KB G hT => hF base KB G fun p hp => hT _ (List.mem_map.mpr ⟨p, hp, rfl⟩)⟩
  · obtain ⟨q, hq, rfl⟩ := List.mem_map.mp hp
    exact he q hq
  · obtain ⟨q, hq, rfl⟩ := List.mem_map.mp hp
    exact ho q hq
  · obtain ⟨q, hq, rfl⟩ := List.mem_map.mp hp
    exact PySem.W.codeHd_of_K X (hh q hq)
end Q
namespace Q
open PySem PySem.Spec PyProof.Rows L2 Evl
/-! defs that call themselves: by levels -/
/-! 'c' + x.replace('y', 'z') -/
/-! int(text) -/
end Q
namespace Q
open PySem PySem.Spec PyProof.Rows L2 Evl
/-! a, b, c = x, y, z -/
@[reducible] def sPar3 (i j k : Nat) (a : FA) : FS := fun ρ μ N => a ρ μ (fun ws μ1 => match ws with
  | [x, y, z] => N.nx (sv (sv (sv ρ i x) j y) k z) μ1
  | _ => False) (N.ex ρ)
theorem RwAll.three {K : Frag} {H : Hp} {μ : Mu} {vs : List V} {x y z : W} (h : RwAll K H μ vs [x, y, z]) : ∃ u v w, vs = [u, v, w] ∧ Rw K H μ u x ∧ Rw K H μ v y ∧ Rw K H μ w z := by
  cases h with
  | cons a b =>
    obtain ⟨v, w, rfl, c, d⟩ := RwAll.two b
    exact ⟨_, v, w, rfl, a, c, d⟩
theorem qs_par3 {X : Cx} {E : L2.St → XK} {i j k : Nat} {x y z : Str} {a b c : Expr} {f : FA} {px py pz pt pos : Pos} {kt k2 pt2} (hc : X.calm = true) (hN : X.N.Nodup) (hi : X.N[i]? = some x) (hj : X.N[j]? = some y) (hk : X.N[k]? = some z) (hij : i ≠ j) (hik : i ≠ k) (hjk : j ≠ k)
    (hx : X.env.scope.names.lookup x = some .local) (hy : X.env.scope.names.lookup y = some .local) (hz : X.env.scope.names.lookup z = some .local) (ha : QA X E [a, b, c] f)
    (hw : swappedStores [.Tuple [.Name x px, .Name y py, .Name z pz] kt pt] (.Tuple [a, b, c] k2 pt2) X.env = pure (some [x, y, z]))
    (hs : swapsWithSole [.Tuple [.Name x px, .Name y py, .Name z pz] kt pt] (.Tuple [a, b, c] k2 pt2) pos.line X.env = pure false := by rfl) :
    QS X E (.Assign [.Tuple [.Name x px, .Name y py, .Name z pz] kt pt] (.Tuple [a, b, c] k2 pt2) pos) (sPar3 i j k f) := ⟨(ps_par3 hc hN hi hj hk hij hik hjk hx hy hz ha.pa hw hs).qimp fun D σ H h => by
  obtain ⟨ρ, μ, N, hh, hm, hf, l⟩ := h
  refine ⟨ρ, μ, _, _, hh, hm, hf, fun ws μ1 vs H1 p1 e1 m1 r1 => ?_, l.xl hh⟩
  split at p1
  · obtain ⟨u, v, w, rfl, r, s, t⟩ := r1.three
    exact ⟨u, v, w, rfl, l.nx _ μ1 _ H1 p1 e1 m1 ((((hh.stp e1).sv i r).sv j s).sv k t)⟩
  · exact p1.elim⟩
end Q
namespace PySem
open Sem (wp)
end PySem
namespace Q
open PySem PySem.Spec PyProof.Rows L2 Evl
/-! {**a, **b} -/
end Q
namespace Q
open PySem
/-! the defs as functions -/
def f_is_integer_B : FW := fDef 3 3 (sSeq (sIf (cOr (cNot (cV (eIsi .int (eV 0)))) (cV (eIsi .bl (eV 0)))) (sRt (eC (.bl false))) (sNx))
  (sRt (eChain wLe wLe (eV 1) (eV 0) (eV 2))))
noncomputable def f_is_integer_S : { f : FW // f = f_is_integer_B } := Classical.choice ⟨⟨_, rfl⟩⟩
noncomputable def f_is_integer : FW := f_is_integer_S.1
theorem f_is_integer_eq : f_is_integer = f_is_integer_B := f_is_integer_S.2
def f__law_rich_B : FW := fDef 2 3 (sSeq (sIf (cV (eOp wGe (eV 0) (eOp wPow (eC (.int 10)) (eC (.int 18))))) (sRt (eB bInt (aCons (eV 0) (aNil)))) (sNx))
  (sSeq (sSet 2 (eOp wMod (eB bInt (aCons (eOp wAdd (eOp wAdd (eOp wMul (eV 0) (eC (.int 48271))) (eOp wMul (eV 1) (eC (.int 69621)))) (eC (.int 11))) (aNil))) (eC (.int 2147483647))))
  (sRt (eOp wAdd (eOp wMul (eV 2) (eC (.int 2147483629))) (eOp wMod (eB bInt (aCons (eOp wAdd (eOp wMul (eV 2) (eC (.int 16807))) (eV 0)) (aNil))) (eC (.int 2147483629)))))))
noncomputable def f__law_rich_S : { f : FW // f = f__law_rich_B } := Classical.choice ⟨⟨_, rfl⟩⟩
noncomputable def f__law_rich : FW := f__law_rich_S.1
theorem f__law_rich_eq : f__law_rich = f__law_rich_B := f__law_rich_S.2
def f_kind_of_B : FW := fDef 1 1 (sSeq (sIf (cAnd (cV (eIsi .tup (eV 0))) (cAnd (cV (eOp wGt (eB bLen (aCons (eV 0) (aNil))) (eC (.int 0)))) (cV (eIsi .str (eOp wIx (eV 0) (eC (.int 0))))))) (sRt (eOp wIx (eV 0) (eC (.int 0)))) (sNx))
  (sRt (eC (.str ""))))
noncomputable def f_kind_of_S : { f : FW // f = f_kind_of_B } := Classical.choice ⟨⟨_, rfl⟩⟩
noncomputable def f_kind_of : FW := f_kind_of_S.1
theorem f_kind_of_eq : f_kind_of = f_kind_of_B := f_kind_of_S.2
def f_is_key_B : FW := fDef 1 2 (sSeq (sIf (cOr (cNot (cV (eIsi .str (eV 0)))) (cNot (cV (eChain wLe wLe (eC (.int 1)) (eB bLen (aCons (eV 0) (aNil))) (eC (.int 8)))))) (sRt (eC (.bl false))) (sNx))
  (sSeq (sFor (iSq (eV 0)) (gN 1) (sIf (cNot (cV (eChain wLe wLe (eC (.str "a")) (eV 1) (eC (.str "z"))))) (sRt (eC (.bl false))) (sNx)))
  (sRt (eC (.bl true)))))
noncomputable def f_is_key_S : { f : FW // f = f_is_key_B } := Classical.choice ⟨⟨_, rfl⟩⟩
noncomputable def f_is_key : FW := f_is_key_S.1
theorem f_is_key_eq : f_is_key = f_is_key_B := f_is_key_S.2
def f_is_bound_B : FW := fDef 1 1 (sRt (eOr (eCall f_is_key (aCons (eV 0) (aNil))) (eAnd (eIsi .str (eV 0)) (eOp wEqu (eV 0) (eC (.str ""))))))
noncomputable def f_is_bound_S : { f : FW // f = f_is_bound_B } := Classical.choice ⟨⟨_, rfl⟩⟩
noncomputable def f_is_bound : FW := f_is_bound_S.1
theorem f_is_bound_eq : f_is_bound = f_is_bound_B := f_is_bound_S.2
def f_below_B : FW := fDef 2 2 (sSeq (sIf (cV (eOp wIs (eV 0) (eC .non))) (sRt (eC (.bl false))) (sNx))
  (sRt (eOr (eOp wIs (eV 1) (eC .non)) (eOp wLt (eV 0) (eV 1)))))
noncomputable def f_below_S : { f : FW // f = f_below_B } := Classical.choice ⟨⟨_, rfl⟩⟩
noncomputable def f_below : FW := f_below_S.1
theorem f_below_eq : f_below = f_below_B := f_below_S.2
def f_contains_B : FW := fDef 3 3 (sRt (eAnd (eOp wLe (eV 0) (eV 2)) (eCall f_below (aCons (eV 2) (aCons (eV 1) (aNil))))))
noncomputable def f_contains_S : { f : FW // f = f_contains_B } := Classical.choice ⟨⟨_, rfl⟩⟩
noncomputable def f_contains : FW := f_contains_S.1
theorem f_contains_eq : f_contains = f_contains_B := f_contains_S.2
def f_is_printable_B : FW := fDef 1 2 (sSeq (sIf (cNot (cV (eIsi .str (eV 0)))) (sRt (eC (.bl false))) (sNx))
  (sSeq (sFor (iSq (eV 0)) (gN 1) (sIf (cOr (cNot (cV (eChain wLe wLe (eC (.str " ")) (eV 1) (eC (.str "~"))))) (cV (eOp wEqu (eB bOrd (aCons (eV 1) (aNil))) (eC (.int 37))))) (sRt (eC (.bl false))) (sNx)))
  (sRt (eC (.bl true)))))
noncomputable def f_is_printable_S : { f : FW // f = f_is_printable_B } := Classical.choice ⟨⟨_, rfl⟩⟩
noncomputable def f_is_printable : FW := f_is_printable_S.1
theorem f_is_printable_eq : f_is_printable = f_is_printable_B := f_is_printable_S.2
def f_is_value_B : FW := fDef 1 1 (sRt (eAnd (eCall f_is_printable (aCons (eV 0) (aNil))) (eOp wLe (eB bLen (aCons (eV 0) (aNil))) (eC (.int 40)))))
noncomputable def f_is_value_S : { f : FW // f = f_is_value_B } := Classical.choice ⟨⟨_, rfl⟩⟩
noncomputable def f_is_value : FW := f_is_value_S.1
theorem f_is_value_eq : f_is_value = f_is_value_B := f_is_value_S.2
def f__is_key_alone_B : FW := fDef 1 1 (sRt (eAnd (eOp wEqu (eB bLen (aCons (eV 0) (aNil))) (eC (.int 2))) (eCall f_is_key (aCons (eOp wIx (eV 0) (eC (.int 1))) (aNil)))))
noncomputable def f__is_key_alone_S : { f : FW // f = f__is_key_alone_B } := Classical.choice ⟨⟨_, rfl⟩⟩
noncomputable def f__is_key_alone : FW := f__is_key_alone_S.1
theorem f__is_key_alone_eq : f__is_key_alone = f__is_key_alone_B := f__is_key_alone_S.2
def f__is_put_B : FW := fDef 1 1 (sRt (eAnd (eOp wEqu (eB bLen (aCons (eV 0) (aNil))) (eC (.int 3))) (eAnd (eCall f_is_key (aCons (eOp wIx (eV 0) (eC (.int 1))) (aNil))) (eCall f_is_value (aCons (eOp wIx (eV 0) (eC (.int 2))) (aNil))))))
noncomputable def f__is_put_S : { f : FW // f = f__is_put_B } := Classical.choice ⟨⟨_, rfl⟩⟩
noncomputable def f__is_put : FW := f__is_put_S.1
theorem f__is_put_eq : f__is_put = f__is_put_B := f__is_put_S.2
def f__is_swap_B : FW := fDef 1 1 (sRt (eAnd (eOp wEqu (eB bLen (aCons (eV 0) (aNil))) (eC (.int 4))) (eAnd (eCall f_is_key (aCons (eOp wIx (eV 0) (eC (.int 1))) (aNil))) (eAnd (eCall f_is_value (aCons (eOp wIx (eV 0) (eC (.int 2))) (aNil))) (eCall f_is_value (aCons (eOp wIx (eV 0) (eC (.int 3))) (aNil)))))))
noncomputable def f__is_swap_S : { f : FW // f = f__is_swap_B } := Classical.choice ⟨⟨_, rfl⟩⟩
noncomputable def f__is_swap : FW := f__is_swap_S.1
theorem f__is_swap_eq : f__is_swap = f__is_swap_B := f__is_swap_S.2
def f__is_page_B : FW := fDef 1 1 (sRt (eAnd (eOp wEqu (eB bLen (aCons (eV 0) (aNil))) (eC (.int 3))) (eAnd (eCall f_is_bound (aCons (eOp wIx (eV 0) (eC (.int 1))) (aNil))) (eCall f_is_integer (aCons (eOp wIx (eV 0) (eC (.int 2))) (aCons (eC (.int 1)) (aCons (eC (.int 50)) (aNil))))))))
noncomputable def f__is_page_S : { f : FW // f = f__is_page_B } := Classical.choice ⟨⟨_, rfl⟩⟩
noncomputable def f__is_page : FW := f__is_page_S.1
theorem f__is_page_eq : f__is_page = f__is_page_B := f__is_page_S.2
def f_is_operation_B : FW := fDef 1 3 (sSeq (sSet 1 (eCall f_kind_of (aCons (eV 0) (aNil))))
  (sSeq (sIf (cV (eOp (wTin "OPERATIONS" [("get", .fn "_is_key_alone"), ("put", .fn "_is_put"), ("drop", .fn "_is_key_alone"), ("swap", .fn "_is_swap"), ("page", .fn "_is_page")] true) (eV 1) (eC (.fn "OPERATIONS")))) (sRt (eC (.bl false))) (sNx))
  (sSeq (sSet 2 (eOp (wTix "OPERATIONS" [("get", .fn "_is_key_alone"), ("put", .fn "_is_put"), ("drop", .fn "_is_key_alone"), ("swap", .fn "_is_swap"), ("page", .fn "_is_page")]) (eC (.fn "OPERATIONS")) (eV 1)))
  (sRt (eCl 2 [("_is_key_alone", f__is_key_alone), ("_is_put", f__is_put), ("_is_swap", f__is_swap), ("_is_page", f__is_page)] (aCons (eV 0) (aNil)))))))
noncomputable def f_is_operation_S : { f : FW // f = f_is_operation_B } := Classical.choice ⟨⟨_, rfl⟩⟩
noncomputable def f_is_operation : FW := f_is_operation_S.1
theorem f_is_operation_eq : f_is_operation = f_is_operation_B := f_is_operation_S.2
def f_place_B : FW := fDef 1 1 (sSeq (sIf (cNot (cV (eCall f_is_operation (aCons (eV 0) (aNil))))) (sRaise "BadOperation") (sNx))
  (sRt (eOp wIx (eV 0) (eC (.int 1)))))
noncomputable def f_place_S : { f : FW // f = f_place_B } := Classical.choice ⟨⟨_, rfl⟩⟩
noncomputable def f_place : FW := f_place_S.1
theorem f_place_eq : f_place = f_place_B := f_place_S.2
def f_is_client_B : FW := fDef 1 1 (sRt (eCall f_is_integer (aCons (eV 0) (aCons (eUn wNeg (eC (.int 100))) (aCons (eUn wNeg (eC (.int 1))) (aNil))))))
noncomputable def f_is_client_S : { f : FW // f = f_is_client_B } := Classical.choice ⟨⟨_, rfl⟩⟩
noncomputable def f_is_client : FW := f_is_client_S.1
theorem f_is_client_eq : f_is_client = f_is_client_B := f_is_client_S.2
def f_Routes_find_B : FW := fDef 2 3 (sSeq (sFor (iSq (eFld ["Routes"] (eV 0) "_pieces")) (gN 2) (sIf (cV (eCall f_contains (aCons (eOp wIx (eV 2) (eC (.int 0))) (aCons (eOp wIx (eV 2) (eC (.int 1))) (aCons (eV 1) (aNil)))))) (sRt (eV 2)) (sNx)))
  (sRt (eC .non)))
noncomputable def f_Routes_find_S : { f : FW // f = f_Routes_find_B } := Classical.choice ⟨⟨_, rfl⟩⟩
noncomputable def f_Routes_find : FW := f_Routes_find_S.1
theorem f_Routes_find_eq : f_Routes_find = f_Routes_find_B := f_Routes_find_S.2
def f_Client_pending_B : FW := fDef 1 2 (sSeq (sSet 1 (eB bLen (aCons (eFld ["Client"] (eV 0) "_accepted") (aNil))))
  (sSeq (sIf (cV (eOp wEqu (eV 1) (eB bLen (aCons (eFld ["Client"] (eV 0) "_ops") (aNil))))) (sRt (eC .non)) (sNx))
  (sRt (eTup (aCons (eOp wAdd (eV 1) (eC (.int 1))) (aCons (eOp wIx (eFld ["Client"] (eV 0) "_ops") (eV 1)) (aNil)))))))
noncomputable def f_Client_pending_S : { f : FW // f = f_Client_pending_B } := Classical.choice ⟨⟨_, rfl⟩⟩
noncomputable def f_Client_pending : FW := f_Client_pending_S.1
theorem f_Client_pending_eq : f_Client_pending = f_Client_pending_B := f_Client_pending_S.2
def f_Client__send_B : FW := fDef 1 5 (sSeq (sSet 1 (eMet "pending" [("Client", f_Client_pending)] (eV 0) (aNil)))
  (sSeq (sIf (cV (eOp wIs (eV 1) (eC .non))) (sRt (eLV (aNil))) (sNx))
  (sSeq (sAsg (eV 1) (gT 2 (gsCons (gN 3) (gsCons (gN 4) (gsNil)))))
  (sSeq (sSet 2 (eMet "find" [("Routes", f_Routes_find)] (eFld ["Client"] (eV 0) "_routes") (aCons (eCall f_place (aCons (eV 4) (aNil))) (aNil))))
  (sSeq (sIf (cV (eOp wIs (eV 2) (eC .non))) (sRt (eLV (aCons (eTup (aCons (eC (.int 1000)) (aCons (eTup (aCons (eC (.str "where")) (aCons (eCall f_place (aCons (eV 4) (aNil))) (aNil)))) (aNil)))) (aNil)))) (sNx))
  (sRt (eLV (aCons (eTup (aCons (eOp wIx (eOp wIx (eV 2) (eC (.int 2))) (eC (.int 3))) (aCons (eTup (aCons (eC (.str "ask")) (aCons (eV 3) (aCons (eV 4) (aNil))))) (aNil)))) (aNil)))))))))
noncomputable def f_Client__send_S : { f : FW // f = f_Client__send_B } := Classical.choice ⟨⟨_, rfl⟩⟩
noncomputable def f_Client__send : FW := f_Client__send_S.1
theorem f_Client__send_eq : f_Client__send = f_Client__send_B := f_Client__send_S.2
def f_Client_submit_B : FW := fDef 2 3 (sSeq (sIf (cNot (cV (eCall f_is_operation (aCons (eV 1) (aNil))))) (sRaise "BadOperation") (sNx))
  (sSeq (sSet 2 (eOp wIsnt (eMet "pending" [("Client", f_Client_pending)] (eV 0) (aNil)) (eC .non)))
  (sSeq (sEx (eBm tyL mApp (eFld ["Client"] (eV 0) "_ops") (aCons (eV 1) (aNil))))
  (sRt (eIf (cV (eV 2)) (eLV (aNil)) (eMet "_send" [("Client", f_Client__send)] (eV 0) (aNil)))))))
noncomputable def f_Client_submit_S : { f : FW // f = f_Client_submit_B } := Classical.choice ⟨⟨_, rfl⟩⟩
noncomputable def f_Client_submit : FW := f_Client_submit_S.1
theorem f_Client_submit_eq : f_Client_submit = f_Client_submit_B := f_Client_submit_S.2
def f__law_cell_2_B : FW := fDef 2 2 (sSeq (sIf (cV (eOp wLt (eV 1) (eB bLen (aCons (eV 0) (aNil))))) (sRt (eB bInt (aCons (eOp wIx (eV 0) (eV 1)) (aNil)))) (sNx))
  (sRt (eC (.int 0))))
noncomputable def f__law_cell_2_S : { f : FW // f = f__law_cell_2_B } := Classical.choice ⟨⟨_, rfl⟩⟩
noncomputable def f__law_cell_2 : FW := f__law_cell_2_S.1
theorem f__law_cell_2_eq : f__law_cell_2 = f__law_cell_2_B := f__law_cell_2_S.2
def f__law_word_B : FW := fDef 3 6 (sSeq (sSet 3 (eC (.str "")))
  (sSeq (sSet 4 (eB bInt (aCons (eV 2) (aNil))))
  (sSeq (sFor (iR1 (aCons (eV 0) (aNil))) (gN 5) (sSeq (sSet 3 (eOp wAdd (eV 3) (eOp wIx (eV 1) (eOp wMod (eB bInt (aCons (eV 4) (aNil))) (eB bLen (aCons (eV 1) (aNil)))))))
  (sSet 4 (eOp wFdv (eV 4) (eB bLen (aCons (eV 1) (aNil)))))))
  (sRt (eV 3)))))
noncomputable def f__law_word_S : { f : FW // f = f__law_word_B } := Classical.choice ⟨⟨_, rfl⟩⟩
noncomputable def f__law_word : FW := f__law_word_S.1
theorem f__law_word_eq : f__law_word = f__law_word_B := f__law_word_S.2
def f__law_key_B : FW := fDef 1 1 (sSeq (sIf (cV (eOp wLt (eOp wMod (eB bInt (aCons (eV 0) (aNil))) (eC (.int 4))) (eC (.int 3)))) (sRt (eOp wIx (eLV (aCons (eC (.str "a")) (aCons (eC (.str "b")) (aCons (eC (.str "c")) (aCons (eC (.str "d")) (aCons (eC (.str "k")) (aCons (eC (.str "m")) (aCons (eC (.str "kk")) (aCons (eC (.str "z")) (aNil)))))))))) (eOp wMod (eOp wFdv (eV 0) (eC (.int 4))) (eC (.int 8))))) (sNx))
  (sRt (eCall f__law_word (aCons (eOp wAdd (eC (.int 1)) (eOp wMod (eOp wFdv (eV 0) (eC (.int 4))) (eC (.int 8)))) (aCons (eC (.str "abcdefghijklmnopqrstuvwxyz")) (aCons (eOp wFdv (eV 0) (eC (.int 32))) (aNil)))))))
noncomputable def f__law_key_S : { f : FW // f = f__law_key_B } := Classical.choice ⟨⟨_, rfl⟩⟩
noncomputable def f__law_key : FW := f__law_key_S.1
theorem f__law_key_eq : f__law_key = f__law_key_B := f__law_key_S.2
def f__law_bound_B : FW := fDef 1 1 (sSeq (sIf (cV (eOp wEqu (eOp wMod (eB bInt (aCons (eV 0) (aNil))) (eC (.int 6))) (eC (.int 5)))) (sRt (eC (.str ""))) (sNx))
  (sRt (eCall f__law_key (aCons (eOp wFdv (eV 0) (eC (.int 6))) (aNil)))))
noncomputable def f__law_bound_S : { f : FW // f = f__law_bound_B } := Classical.choice ⟨⟨_, rfl⟩⟩
noncomputable def f__law_bound : FW := f__law_bound_S.1
theorem f__law_bound_eq : f__law_bound = f__law_bound_B := f__law_bound_S.2
def f__law_value_B : FW := fDef 1 2 (sSeq (sIf (cV (eOp wLt (eOp wMod (eB bInt (aCons (eV 0) (aNil))) (eC (.int 4))) (eC (.int 3)))) (sRt (eOp wIx (eLV (aCons (eC (.str "x")) (aCons (eC (.str "y")) (aCons (eC (.str "")) (aNil))))) (eOp wMod (eOp wFdv (eV 0) (eC (.int 4))) (eC (.int 3))))) (sNx))
  (sSeq (sSet 1 (eC (.str " !\"#$&'()*+,-./0123456789:;<=>?@ABCDEFGHIJKLMNOPQRSTUVWXYZ[\\]^_`abcdefghijklmnopqrstuvwxyz{|}~")))
  (sRt (eCall f__law_word (aCons (eOp wMod (eOp wFdv (eV 0) (eC (.int 4))) (eC (.int 41))) (aCons (eV 1) (aCons (eOp wFdv (eV 0) (eC (.int 164))) (aNil))))))))
noncomputable def f__law_value_S : { f : FW // f = f__law_value_B } := Classical.choice ⟨⟨_, rfl⟩⟩
noncomputable def f__law_value : FW := f__law_value_S.1
theorem f__law_value_eq : f__law_value = f__law_value_B := f__law_value_S.2
def f__law_operation_B : FW := fDef 1 5 (sSeq (sSet 1 (eOp wIx (eLV (aCons (eC (.str "get")) (aCons (eC (.str "put")) (aCons (eC (.str "drop")) (aCons (eC (.str "swap")) (aCons (eC (.str "page")) (aCons (eC (.str "put")) (aNil)))))))) (eOp wMod (eV 0) (eC (.int 6)))))
  (sSeq (sSet 2 (eOp wFdv (eV 0) (eC (.int 6))))
  (sSeq (sIf (cV (eOp wEqu (eV 1) (eC (.str "page")))) (sSeq (sSet 4 (eOp wAdd (eC (.int 1)) (eOp wMod (eOp wFdv (eV 2) (eC (.int 500))) (eC (.int 3)))))
  (sJn (sIf (cV (eOp wEqu (eOp wMod (eOp wFdv (eV 2) (eC (.int 1500))) (eC (.int 4))) (eC (.int 0)))) (sSet 4 (eOp wAdd (eC (.int 1)) (eOp wMod (eOp wFdv (eV 2) (eC (.int 6000))) (eC (.int 50))))) (sNx))
  (sRt (eTup (aCons (eV 1) (aCons (eCall f__law_bound (aCons (eV 2) (aNil))) (aCons (eV 4) (aNil)))))))) (sNx))
  (sSeq (sSet 3 (eCall f__law_key (aCons (eV 2) (aNil))))
  (sSeq (sIf (cV (eOp wEqu (eV 1) (eC (.str "put")))) (sRt (eTup (aCons (eV 1) (aCons (eV 3) (aCons (eCall f__law_value (aCons (eOp wFdv (eV 2) (eC (.int 500))) (aNil))) (aNil)))))) (sNx))
  (sSeq (sIf (cV (eOp wEqu (eV 1) (eC (.str "swap")))) (sRt (eTup (aCons (eV 1) (aCons (eV 3) (aCons (eCall f__law_value (aCons (eOp wFdv (eV 2) (eC (.int 500))) (aNil))) (aCons (eCall f__law_value (aCons (eOp wFdv (eV 2) (eC (.int 7000))) (aNil))) (aNil))))))) (sNx))
  (sRt (eTup (aCons (eV 1) (aCons (eV 3) (aNil)))))))))))
noncomputable def f__law_operation_S : { f : FW // f = f__law_operation_B } := Classical.choice ⟨⟨_, rfl⟩⟩
noncomputable def f__law_operation : FW := f__law_operation_S.1
theorem f__law_operation_eq : f__law_operation = f__law_operation_B := f__law_operation_S.2
def f_overlap_B : FW := fDef 4 4 (sRt (eAnd (eCall f_below (aCons (eV 0) (aCons (eV 3) (aNil)))) (eCall f_below (aCons (eV 2) (aCons (eV 1) (aNil))))))
noncomputable def f_overlap_S : { f : FW // f = f_overlap_B } := Classical.choice ⟨⟨_, rfl⟩⟩
noncomputable def f_overlap : FW := f_overlap_S.1
theorem f_overlap_eq : f_overlap = f_overlap_B := f_overlap_S.2
def f__lesser_B : FW := fDef 2 2 (sRt (eIf (cV (eCall f_below (aCons (eV 0) (aCons (eV 1) (aNil))))) (eV 0) (eV 1)))
noncomputable def f__lesser_S : { f : FW // f = f__lesser_B } := Classical.choice ⟨⟨_, rfl⟩⟩
noncomputable def f__lesser : FW := f__lesser_S.1
theorem f__lesser_eq : f__lesser = f__lesser_B := f__lesser_S.2
def f_apart_B : FW := fDef 3 8 (sSeq (sSet 3 (eLR (aNil)))
  (sSeq (sSet 4 (eLR (aNil)))
  (sSeq (sFor (iSq (eV 0)) (gT 3 (gsCons (gN 5) (gsCons (gN 6) (gsCons (gN 7) (gsNil))))) (sJn (sIf (cV (eOp wLt (eV 5) (eV 1))) (sEx (eBm tyL mApp (eV 4) (aCons (eTup (aCons (eV 5) (aCons (eCall f__lesser (aCons (eV 6) (aCons (eV 1) (aNil)))) (aCons (eV 7) (aNil))))) (aNil)))) (sNx))
  (sJn (sIf (cV (eCall f_overlap (aCons (eV 5) (aCons (eV 6) (aCons (eV 1) (aCons (eV 2) (aNil))))))) (sEx (eBm tyL mApp (eV 3) (aCons (eTup (aCons (eB bMax (aCons (eV 5) (aCons (eV 1) (aNil)))) (aCons (eCall f__lesser (aCons (eV 6) (aCons (eV 2) (aNil)))) (aCons (eV 7) (aNil))))) (aNil)))) (sNx))
  (sIf (cV (eCall f_below (aCons (eV 2) (aCons (eV 6) (aNil))))) (sEx (eBm tyL mApp (eV 4) (aCons (eTup (aCons (eB bMax (aCons (eV 5) (aCons (eV 2) (aNil)))) (aCons (eV 6) (aCons (eV 7) (aNil))))) (aNil)))) (sNx)))))
  (sRt (eTup (aCons (eV 3) (aCons (eV 4) (aNil))))))))
noncomputable def f_apart_S : { f : FW // f = f_apart_B } := Classical.choice ⟨⟨_, rfl⟩⟩
noncomputable def f_apart : FW := f_apart_S.1
theorem f_apart_eq : f_apart = f_apart_B := f_apart_S.2
def f_filled_B : FW := fDef 4 7 (sSeq (sSet 4 (eLR (aNil)))
  (sSeq (sSet 5 (eV 1))
  (sSeq (sFor (iSq (eV 0)) (gN 6) (sJn (sIf (cV (eOp wLt (eV 5) (eOp wIx (eV 6) (eC (.int 0))))) (sEx (eBm tyL mApp (eV 4) (aCons (eTup (aCons (eV 5) (aCons (eOp wIx (eV 6) (eC (.int 0))) (aCons (eV 3) (aNil))))) (aNil)))) (sNx))
  (sSeq (sEx (eBm tyL mApp (eV 4) (aCons (eV 6) (aNil))))
  (sSet 5 (eOp wIx (eV 6) (eC (.int 1)))))))
  (sJn (sIf (cV (eCall f_below (aCons (eV 5) (aCons (eV 2) (aNil))))) (sEx (eBm tyL mApp (eV 4) (aCons (eTup (aCons (eV 5) (aCons (eV 2) (aCons (eV 3) (aNil))))) (aNil)))) (sNx))
  (sRt (eV 4))))))
noncomputable def f_filled_S : { f : FW // f = f_filled_B } := Classical.choice ⟨⟨_, rfl⟩⟩
noncomputable def f_filled : FW := f_filled_S.1
theorem f_filled_eq : f_filled = f_filled_B := f_filled_S.2
def f_fused_B : FW := fDef 1 5 (sSeq (sSet 1 (eLR (aNil)))
  (sSeq (sFor (iSq (eSrtI ("fused", none) ("fused" ++ ".<locals>." ++ "<lambda>") 0 (aCons (eV 0) (aNil)))) (gT 3 (gsCons (gN 2) (gsCons (gN 3) (gsCons (gN 4) (gsNil))))) (sIf (cAnd (cV (eOp wGt (eB bLen (aCons (eV 1) (aNil))) (eC (.int 0)))) (cAnd (cV (eOp wEqu (eOp wIx (eOp wIx (eV 1) (eUn wNeg (eC (.int 1)))) (eC (.int 1))) (eV 2))) (cV (eOp wEqu (eOp wIx (eOp wIx (eV 1) (eUn wNeg (eC (.int 1)))) (eC (.int 2))) (eV 4))))) (sPut (eV 1) (eUn wNeg (eC (.int 1))) (eTup (aCons (eOp wIx (eOp wIx (eV 1) (eUn wNeg (eC (.int 1)))) (eC (.int 0))) (aCons (eV 3) (aCons (eV 4) (aNil)))))) (sEx (eBm tyL mApp (eV 1) (aCons (eTup (aCons (eV 2) (aCons (eV 3) (aCons (eV 4) (aNil))))) (aNil))))))
  (sRt (eV 1))))
noncomputable def f_fused_S : { f : FW // f = f_fused_B } := Classical.choice ⟨⟨_, rfl⟩⟩
noncomputable def f_fused : FW := f_fused_S.1
theorem f_fused_eq : f_fused = f_fused_B := f_fused_S.2
def f_Routes___init___2_B : FW := fDef 1 1 (sFld ["Routes"] (eV 0) "_pieces" (eLR (aNil)))
noncomputable def f_Routes___init___2_S : { f : FW // f = f_Routes___init___2_B } := Classical.choice ⟨⟨_, rfl⟩⟩
noncomputable def f_Routes___init___2 : FW := f_Routes___init___2_S.1
theorem f_Routes___init___2_eq : f_Routes___init___2 = f_Routes___init___2_B := f_Routes___init___2_S.2
def f__newer_B : FW := fDef 2 2 (sRt (eIf (cV (eOp wGe (eOp wIx (eV 1) (eC (.int 2))) (eOp wIx (eV 0) (eC (.int 2))))) (eV 1) (eV 0)))
noncomputable def f__newer_S : { f : FW // f = f__newer_B } := Classical.choice ⟨⟨_, rfl⟩⟩
noncomputable def f__newer : FW := f__newer_S.1
theorem f__newer_eq : f__newer = f__newer_B := f__newer_S.2
def f_Routes_add_2_B : FW := fDef 2 9 (sSeq (sPar 2 3 (aCons (eOp wIx (eV 1) (eC (.int 0))) (aCons (eOp wIx (eV 1) (eC (.int 1))) (aNil))))
  (sSeq (sAsg (eCall f_apart (aCons (eFld ["Routes"] (eV 0) "_pieces") (aCons (eV 2) (aCons (eV 3) (aNil))))) (gT 2 (gsCons (gN 4) (gsCons (gN 5) (gsNil)))))
  (sFld ["Routes"] (eV 0) "_pieces" (eCall f_fused (aCons (eOp wAdd (eV 5) (eLcV (iSq (eCall f_filled (aCons (eV 4) (aCons (eV 2) (aCons (eV 3) (aCons (eV 1) (aNil))))))) [6, 7, 8] (gT 3 (gsCons (gN 6) (gsCons (gN 7) (gsCons (gN 8) (gsNil))))) cYes (eTup (aCons (eV 6) (aCons (eV 7) (aCons (eCall f__newer (aCons (eV 8) (aCons (eV 1) (aNil)))) (aNil))))))) (aNil))))))
noncomputable def f_Routes_add_2_S : { f : FW // f = f_Routes_add_2_B } := Classical.choice ⟨⟨_, rfl⟩⟩
noncomputable def f_Routes_add_2 : FW := f_Routes_add_2_S.1
theorem f_Routes_add_2_eq : f_Routes_add_2 = f_Routes_add_2_B := f_Routes_add_2_S.2
def f_Routes_pieces_2_B : FW := fDef 1 1 (sRt (eB bLsR (aCons (eFld ["Routes"] (eV 0) "_pieces") (aNil))))
noncomputable def f_Routes_pieces_2_S : { f : FW // f = f_Routes_pieces_2_B } := Classical.choice ⟨⟨_, rfl⟩⟩
noncomputable def f_Routes_pieces_2 : FW := f_Routes_pieces_2_S.1
theorem f_Routes_pieces_2_eq : f_Routes_pieces_2 = f_Routes_pieces_2_B := f_Routes_pieces_2_S.2
def f_Routes_drop_2_B : FW := fDef 2 3 (sFld ["Routes"] (eV 0) "_pieces" (eLcR (iSq (eFld ["Routes"] (eV 0) "_pieces")) [2] (gN 2) (cNot (cV (eCall f_contains (aCons (eOp wIx (eV 2) (eC (.int 0))) (aCons (eOp wIx (eV 2) (eC (.int 1))) (aCons (eV 1) (aNil))))))) (eV 2)))
noncomputable def f_Routes_drop_2_S : { f : FW // f = f_Routes_drop_2_B } := Classical.choice ⟨⟨_, rfl⟩⟩
noncomputable def f_Routes_drop_2 : FW := f_Routes_drop_2_S.1
theorem f_Routes_drop_2_eq : f_Routes_drop_2 = f_Routes_drop_2_B := f_Routes_drop_2_S.2
def f_is_range_B : FW := fDef 2 2 (sSeq (sIf (cNot (cV (eCall f_is_bound (aCons (eV 0) (aNil))))) (sRt (eC (.bl false))) (sNx))
  (sRt (eOr (eOp wIs (eV 1) (eC .non)) (eAnd (eCall f_is_key (aCons (eV 1) (aNil))) (eOp wLt (eV 0) (eV 1))))))
noncomputable def f_is_range_S : { f : FW // f = f_is_range_B } := Classical.choice ⟨⟨_, rfl⟩⟩
noncomputable def f_is_range : FW := f_is_range_S.1
theorem f_is_range_eq : f_is_range = f_is_range_B := f_is_range_S.2
def f__is_pair_B : FW := fDef 1 1 (sRt (eAnd (eIsi .tup (eV 0)) (eAnd (eOp wEqu (eB bLen (aCons (eV 0) (aNil))) (eC (.int 2))) (eAnd (eCall f_is_key (aCons (eOp wIx (eV 0) (eC (.int 0))) (aNil))) (eCall f_is_value (aCons (eOp wIx (eV 0) (eC (.int 1))) (aNil)))))))
noncomputable def f__is_pair_S : { f : FW // f = f__is_pair_B } := Classical.choice ⟨⟨_, rfl⟩⟩
noncomputable def f__is_pair : FW := f__is_pair_S.1
theorem f__is_pair_eq : f__is_pair = f__is_pair_B := f__is_pair_S.2
def f_are_pairs_B : FW := fDef 1 3 (sSeq (sIf (cNot (cV (eIsi .tup (eV 0)))) (sRt (eC (.bl false))) (sNx))
  (sSeq (sSet 1 (eC (.str "")))
  (sSeq (sFor (iSq (eV 0)) (gN 2) (sSeq (sIf (cOr (cNot (cV (eCall f__is_pair (aCons (eV 2) (aNil))))) (cV (eOp wLe (eOp wIx (eV 2) (eC (.int 0))) (eV 1)))) (sRt (eC (.bl false))) (sNx))
  (sSet 1 (eOp wIx (eV 2) (eC (.int 0))))))
  (sRt (eC (.bl true))))))
noncomputable def f_are_pairs_S : { f : FW // f = f_are_pairs_B } := Classical.choice ⟨⟨_, rfl⟩⟩
noncomputable def f_are_pairs : FW := f_are_pairs_S.1
theorem f_are_pairs_eq : f_are_pairs = f_are_pairs_B := f_are_pairs_S.2
def f__is_word_alone_B : FW := fDef 1 1 (sRt (eOp wEqu (eB bLen (aCons (eV 0) (aNil))) (eC (.int 1))))
noncomputable def f__is_word_alone_S : { f : FW // f = f__is_word_alone_B } := Classical.choice ⟨⟨_, rfl⟩⟩
noncomputable def f__is_word_alone : FW := f__is_word_alone_S.1
theorem f__is_word_alone_eq : f__is_word_alone = f__is_word_alone_B := f__is_word_alone_S.2
def f__is_value_told_B : FW := fDef 1 1 (sRt (eAnd (eOp wEqu (eB bLen (aCons (eV 0) (aNil))) (eC (.int 2))) (eCall f_is_value (aCons (eOp wIx (eV 0) (eC (.int 1))) (aNil)))))
noncomputable def f__is_value_told_S : { f : FW // f = f__is_value_told_B } := Classical.choice ⟨⟨_, rfl⟩⟩
noncomputable def f__is_value_told : FW := f__is_value_told_S.1
theorem f__is_value_told_eq : f__is_value_told = f__is_value_told_B := f__is_value_told_S.2
def f__is_page_told_B : FW := fDef 1 4 (sSeq (sIf (cV (eOp wNeq (eB bLen (aCons (eV 0) (aNil))) (eC (.int 3)))) (sRt (eC (.bl false))) (sNx))
  (sSeq (sAsg (eV 0) (gT 3 (gsCons (gN 1) (gsCons (gN 2) (gsCons (gN 3) (gsNil))))))
  (sSeq (sIf (cOr (cNot (cV (eCall f_are_pairs (aCons (eV 2) (aNil))))) (cV (eOp wGt (eB bLen (aCons (eV 2) (aNil))) (eC (.int 50))))) (sRt (eC (.bl false))) (sNx))
  (sSeq (sIf (cAnd (cV (eOp wIsnt (eV 3) (eC .non))) (cNot (cV (eCall f_is_key (aCons (eV 3) (aNil)))))) (sRt (eC (.bl false))) (sNx))
  (sRt (eOr (eOp wEqu (eB bLen (aCons (eV 2) (aNil))) (eC (.int 0))) (eCall f_below (aCons (eOp wIx (eOp wIx (eV 2) (eUn wNeg (eC (.int 1)))) (eC (.int 0))) (aCons (eV 3) (aNil))))))))))
noncomputable def f__is_page_told_S : { f : FW // f = f__is_page_told_B } := Classical.choice ⟨⟨_, rfl⟩⟩
noncomputable def f__is_page_told : FW := f__is_page_told_S.1
theorem f__is_page_told_eq : f__is_page_told = f__is_page_told_B := f__is_page_told_S.2
def f_is_answer_B : FW := fDef 1 3 (sSeq (sSet 1 (eCall f_kind_of (aCons (eV 0) (aNil))))
  (sSeq (sIf (cV (eOp (wTin "ANSWERS" [("value", .fn "_is_value_told"), ("none", .fn "_is_word_alone"), ("done", .fn "_is_word_alone"), ("other", .fn "_is_value_told"), ("page", .fn "_is_page_told")] true) (eV 1) (eC (.fn "ANSWERS")))) (sRt (eC (.bl false))) (sNx))
  (sSeq (sSet 2 (eOp (wTix "ANSWERS" [("value", .fn "_is_value_told"), ("none", .fn "_is_word_alone"), ("done", .fn "_is_word_alone"), ("other", .fn "_is_value_told"), ("page", .fn "_is_page_told")]) (eC (.fn "ANSWERS")) (eV 1)))
  (sRt (eCl 2 [("_is_value_told", f__is_value_told), ("_is_word_alone", f__is_word_alone), ("_is_page_told", f__is_page_told)] (aCons (eV 0) (aNil)))))))
noncomputable def f_is_answer_S : { f : FW // f = f_is_answer_B } := Classical.choice ⟨⟨_, rfl⟩⟩
noncomputable def f_is_answer : FW := f_is_answer_S.1
theorem f_is_answer_eq : f_is_answer = f_is_answer_B := f_is_answer_S.2
def f_is_server_B : FW := fDef 2 2 (sRt (eCall f_is_integer (aCons (eV 1) (aCons (eC (.int 0)) (aCons (eOp wSub (eV 0) (eC (.int 1))) (aNil))))))
noncomputable def f_is_server_S : { f : FW // f = f_is_server_B } := Classical.choice ⟨⟨_, rfl⟩⟩
noncomputable def f_is_server : FW := f_is_server_S.1
theorem f_is_server_eq : f_is_server = f_is_server_B := f_is_server_S.2
def f_is_pairs_B : FW := fDef 3 5 (sSeq (sIf (cNot (cV (eCall f_are_pairs (aCons (eV 2) (aNil))))) (sRt (eC (.bl false))) (sNx))
  (sSeq (sFor (iSq (eV 2)) (gT 2 (gsCons (gN 3) (gsCons (gN 4) (gsNil)))) (sIf (cNot (cV (eCall f_contains (aCons (eV 0) (aCons (eV 1) (aCons (eV 3) (aNil))))))) (sRt (eC (.bl false))) (sNx)))
  (sRt (eC (.bl true)))))
noncomputable def f_is_pairs_S : { f : FW // f = f_is_pairs_B } := Classical.choice ⟨⟨_, rfl⟩⟩
noncomputable def f_is_pairs : FW := f_is_pairs_S.1
theorem f_is_pairs_eq : f_is_pairs = f_is_pairs_B := f_is_pairs_S.2
def f_is_number_B : FW := fDef 1 1 (sRt (eCall f_is_integer (aCons (eV 0) (aCons (eC (.int 1)) (aCons (eC (.int 1000000000000)) (aNil))))))
noncomputable def f_is_number_S : { f : FW // f = f_is_number_B } := Classical.choice ⟨⟨_, rfl⟩⟩
noncomputable def f_is_number : FW := f_is_number_S.1
theorem f_is_number_eq : f_is_number = f_is_number_B := f_is_number_S.2
def f__is_row_B : FW := fDef 1 4 (sSeq (sIf (cOr (cNot (cV (eIsi .tup (eV 0)))) (cV (eOp wNeq (eB bLen (aCons (eV 0) (aNil))) (eC (.int 3))))) (sRt (eC (.bl false))) (sNx))
  (sSeq (sAsg (eV 0) (gT 3 (gsCons (gN 1) (gsCons (gN 2) (gsCons (gN 3) (gsNil))))))
  (sRt (eAnd (eCall f_is_client (aCons (eV 1) (aNil))) (eAnd (eCall f_is_number (aCons (eV 2) (aNil))) (eCall f_is_answer (aCons (eV 3) (aNil))))))))
noncomputable def f__is_row_S : { f : FW // f = f__is_row_B } := Classical.choice ⟨⟨_, rfl⟩⟩
noncomputable def f__is_row : FW := f__is_row_S.1
theorem f__is_row_eq : f__is_row = f__is_row_B := f__is_row_S.2
def f_is_rows_B : FW := fDef 1 3 (sSeq (sIf (cNot (cV (eIsi .tup (eV 0)))) (sRt (eC (.bl false))) (sNx))
  (sSeq (sSet 1 (eC .non))
  (sSeq (sFor (iSq (eV 0)) (gN 2) (sSeq (sIf (cOr (cNot (cV (eCall f__is_row (aCons (eV 2) (aNil))))) (cAnd (cV (eOp wIsnt (eV 1) (eC .non))) (cV (eOp wLe (eOp wIx (eV 2) (eC (.int 0))) (eV 1))))) (sRt (eC (.bl false))) (sNx))
  (sSet 1 (eOp wIx (eV 2) (eC (.int 0))))))
  (sRt (eC (.bl true))))))
noncomputable def f_is_rows_S : { f : FW // f = f_is_rows_B } := Classical.choice ⟨⟨_, rfl⟩⟩
noncomputable def f_is_rows : FW := f_is_rows_S.1
theorem f_is_rows_eq : f_is_rows = f_is_rows_B := f_is_rows_S.2
def f__is_ask_B : FW := fDef 2 2 (sRt (eAnd (eOp wEqu (eB bLen (aCons (eV 1) (aNil))) (eC (.int 3))) (eAnd (eCall f_is_number (aCons (eOp wIx (eV 1) (eC (.int 1))) (aNil))) (eCall f_is_operation (aCons (eOp wIx (eV 1) (eC (.int 2))) (aNil))))))
noncomputable def f__is_ask_S : { f : FW // f = f__is_ask_B } := Classical.choice ⟨⟨_, rfl⟩⟩
noncomputable def f__is_ask : FW := f__is_ask_S.1
theorem f__is_ask_eq : f__is_ask = f__is_ask_B := f__is_ask_S.2
def f__is_where_B : FW := fDef 2 2 (sRt (eAnd (eOp wEqu (eB bLen (aCons (eV 1) (aNil))) (eC (.int 2))) (eCall f_is_bound (aCons (eOp wIx (eV 1) (eC (.int 1))) (aNil)))))
noncomputable def f__is_where_S : { f : FW // f = f__is_where_B } := Classical.choice ⟨⟨_, rfl⟩⟩
noncomputable def f__is_where : FW := f__is_where_S.1
theorem f__is_where_eq : f__is_where = f__is_where_B := f__is_where_S.2
def f__is_told_B : FW := fDef 2 2 (sRt (eAnd (eOp wEqu (eB bLen (aCons (eV 1) (aNil))) (eC (.int 3))) (eAnd (eCall f_is_number (aCons (eOp wIx (eV 1) (eC (.int 1))) (aNil))) (eCall f_is_answer (aCons (eOp wIx (eV 1) (eC (.int 2))) (aNil))))))
noncomputable def f__is_told_S : { f : FW // f = f__is_told_B } := Classical.choice ⟨⟨_, rfl⟩⟩
noncomputable def f__is_told : FW := f__is_told_S.1
theorem f__is_told_eq : f__is_told = f__is_told_B := f__is_told_S.2
def f__is_elsewhere_B : FW := fDef 2 2 (sRt (eAnd (eOp wEqu (eB bLen (aCons (eV 1) (aNil))) (eC (.int 2))) (eCall f_is_number (aCons (eOp wIx (eV 1) (eC (.int 1))) (aNil)))))
noncomputable def f__is_elsewhere_S : { f : FW // f = f__is_elsewhere_B } := Classical.choice ⟨⟨_, rfl⟩⟩
noncomputable def f__is_elsewhere : FW := f__is_elsewhere_S.1
theorem f__is_elsewhere_eq : f__is_elsewhere = f__is_elsewhere_B := f__is_elsewhere_S.2
def f_names_shard_B : FW := fDef 2 2 (sRt (eAnd (eOp wEqu (eB bLen (aCons (eV 0) (aNil))) (eV 1)) (eAnd (eCall f_is_range (aCons (eOp wIx (eV 0) (eC (.int 1))) (aCons (eOp wIx (eV 0) (eC (.int 2))) (aNil)))) (eCall f_is_number (aCons (eOp wIx (eV 0) (eC (.int 3))) (aNil))))))
noncomputable def f_names_shard_S : { f : FW // f = f_names_shard_B } := Classical.choice ⟨⟨_, rfl⟩⟩
noncomputable def f_names_shard : FW := f_names_shard_S.1
theorem f_names_shard_eq : f_names_shard = f_names_shard_B := f_names_shard_S.2
def f__names_server_B : FW := fDef 2 2 (sRt (eAnd (eCall f_names_shard (aCons (eV 1) (aCons (eC (.int 5)) (aNil)))) (eCall f_is_server (aCons (eV 0) (aCons (eOp wIx (eV 1) (eC (.int 4))) (aNil))))))
noncomputable def f__names_server_S : { f : FW // f = f__names_server_B } := Classical.choice ⟨⟨_, rfl⟩⟩
noncomputable def f__names_server : FW := f__names_server_S.1
theorem f__names_server_eq : f__names_server = f__names_server_B := f__names_server_S.2
def f__is_split_B : FW := fDef 2 5 (sSeq (sIf (cNot (cV (eCall f_names_shard (aCons (eV 1) (aCons (eC (.int 5)) (aNil)))))) (sRt (eC (.bl false))) (sNx))
  (sSeq (sPar3 2 3 4 (aCons (eOp wIx (eV 1) (eC (.int 1))) (aCons (eOp wIx (eV 1) (eC (.int 2))) (aCons (eOp wIx (eV 1) (eC (.int 4))) (aNil)))))
  (sRt (eAnd (eCall f_is_key (aCons (eV 4) (aNil))) (eAnd (eOp wLt (eV 2) (eV 4)) (eCall f_below (aCons (eV 4) (aCons (eV 3) (aNil)))))))))
noncomputable def f__is_split_S : { f : FW // f = f__is_split_B } := Classical.choice ⟨⟨_, rfl⟩⟩
noncomputable def f__is_split : FW := f__is_split_S.1
theorem f__is_split_eq : f__is_split = f__is_split_B := f__is_split_S.2
def f__is_join_B : FW := fDef 2 8 (sSeq (sIf (cV (eOp wNeq (eB bLen (aCons (eV 1) (aNil))) (eC (.int 6)))) (sRt (eC (.bl false))) (sNx))
  (sSeq (sAsg (eV 1) (gT 6 (gsCons (gN 2) (gsCons (gN 3) (gsCons (gN 4) (gsCons (gN 5) (gsCons (gN 6) (gsCons (gN 7) (gsNil)))))))))
  (sSeq (sIf (cOr (cNot (cV (eCall f_is_range (aCons (eV 3) (aCons (eV 4) (aNil)))))) (cNot (cV (eCall f_is_range (aCons (eV 4) (aCons (eV 6) (aNil))))))) (sRt (eC (.bl false))) (sNx))
  (sRt (eAnd (eCall f_is_number (aCons (eV 5) (aNil))) (eCall f_is_number (aCons (eV 7) (aNil))))))))
noncomputable def f__is_join_S : { f : FW // f = f__is_join_B } := Classical.choice ⟨⟨_, rfl⟩⟩
noncomputable def f__is_join : FW := f__is_join_S.1
theorem f__is_join_eq : f__is_join = f__is_join_B := f__is_join_S.2
def f__is_have_B : FW := fDef 2 2 (sRt (eAnd (eCall f_names_shard (aCons (eV 1) (aCons (eC (.int 6)) (aNil)))) (eAnd (eCall f_is_integer (aCons (eOp wIx (eV 1) (eC (.int 4))) (aCons (eC (.int 0)) (aCons (eC (.int 1000000000000)) (aNil))))) (eCall f_is_bound (aCons (eOp wIx (eV 1) (eC (.int 5))) (aNil))))))
noncomputable def f__is_have_S : { f : FW // f = f__is_have_B } := Classical.choice ⟨⟨_, rfl⟩⟩
noncomputable def f__is_have : FW := f__is_have_S.1
theorem f__is_have_eq : f__is_have = f__is_have_B := f__is_have_S.2
def f__is_content_B : FW := fDef 2 2 (sSeq (sIf (cNot (cV (eCall f_names_shard (aCons (eV 1) (aCons (eC (.int 6)) (aNil)))))) (sRt (eC (.bl false))) (sNx))
  (sRt (eAnd (eCall f_is_pairs (aCons (eOp wIx (eV 1) (eC (.int 1))) (aCons (eOp wIx (eV 1) (eC (.int 2))) (aCons (eOp wIx (eV 1) (eC (.int 4))) (aNil))))) (eCall f_is_rows (aCons (eOp wIx (eV 1) (eC (.int 5))) (aNil))))))
noncomputable def f__is_content_S : { f : FW // f = f__is_content_B } := Classical.choice ⟨⟨_, rfl⟩⟩
noncomputable def f__is_content : FW := f__is_content_S.1
theorem f__is_content_eq : f__is_content = f__is_content_B := f__is_content_S.2
def f__is_receipt_B : FW := fDef 2 2 (sRt (eCall f_names_shard (aCons (eV 1) (aCons (eC (.int 4)) (aNil)))))
noncomputable def f__is_receipt_S : { f : FW // f = f__is_receipt_B } := Classical.choice ⟨⟨_, rfl⟩⟩
noncomputable def f__is_receipt : FW := f__is_receipt_S.1
theorem f__is_receipt_eq : f__is_receipt = f__is_receipt_B := f__is_receipt_S.2
def f_is_letter_B : FW := fDef 2 4 (sSeq (sSet 2 (eCall f_kind_of (aCons (eV 1) (aNil))))
  (sSeq (sIf (cV (eOp (wTin "FORMS" [("ask", .fn "_is_ask"), ("where", .fn "_is_where"), ("answer", .fn "_is_told"), ("elsewhere", .fn "_is_elsewhere"), ("there", .fn "_names_server"), ("move", .fn "_names_server"), ("split", .fn "_is_split"), ("join", .fn "_is_join"), ("have", .fn "_is_have"), ("content", .fn "_is_content"), ("receipt", .fn "_is_receipt")] true) (eV 2) (eC (.fn "FORMS")))) (sRt (eC (.bl false))) (sNx))
  (sSeq (sSet 3 (eOp (wTix "FORMS" [("ask", .fn "_is_ask"), ("where", .fn "_is_where"), ("answer", .fn "_is_told"), ("elsewhere", .fn "_is_elsewhere"), ("there", .fn "_names_server"), ("move", .fn "_names_server"), ("split", .fn "_is_split"), ("join", .fn "_is_join"), ("have", .fn "_is_have"), ("content", .fn "_is_content"), ("receipt", .fn "_is_receipt")]) (eC (.fn "FORMS")) (eV 2)))
  (sRt (eCl 3 [("_is_ask", f__is_ask), ("_is_where", f__is_where), ("_is_told", f__is_told), ("_is_elsewhere", f__is_elsewhere), ("_names_server", f__names_server), ("_is_split", f__is_split), ("_is_join", f__is_join), ("_is_have", f__is_have), ("_is_content", f__is_content), ("_is_receipt", f__is_receipt)] (aCons (eV 0) (aCons (eV 1) (aNil))))))))
noncomputable def f_is_letter_S : { f : FW // f = f_is_letter_B } := Classical.choice ⟨⟨_, rfl⟩⟩
noncomputable def f_is_letter : FW := f_is_letter_S.1
theorem f_is_letter_eq : f_is_letter = f_is_letter_B := f_is_letter_S.2
def f__is_party_B : FW := fDef 3 3 (sSeq (sIf (cV (eOp wEqu (eV 1) (eC (.str "client")))) (sRt (eCall f_is_client (aCons (eV 2) (aNil)))) (sNx))
  (sSeq (sIf (cV (eOp wEqu (eV 1) (eC (.str "server")))) (sRt (eCall f_is_server (aCons (eV 0) (aCons (eV 2) (aNil))))) (sNx))
  (sRt (eCall f_is_integer (aCons (eV 2) (aCons (eC (.int 1000)) (aCons (eC (.int 1000)) (aNil))))))))
noncomputable def f__is_party_S : { f : FW // f = f__is_party_B } := Classical.choice ⟨⟨_, rfl⟩⟩
noncomputable def f__is_party : FW := f__is_party_S.1
theorem f__is_party_eq : f__is_party = f__is_party_B := f__is_party_S.2
def f_check_letter_B : FW := fDef 4 6 (sSeq (sIf (cNot (cV (eCall f_is_letter (aCons (eV 0) (aCons (eV 3) (aNil)))))) (sRaise "BadLetter") (sNx))
  (sSeq (sAsg (eOp (wTix "ROUTES" [("ask", .tup [.str "client", .str "server"]), ("where", .tup [.str "client", .str "directory"]), ("answer", .tup [.str "server", .str "client"]), ("elsewhere", .tup [.str "server", .str "client"]), ("there", .tup [.str "directory", .str "client"]), ("move", .tup [.str "directory", .str "server"]), ("split", .tup [.str "directory", .str "server"]), ("join", .tup [.str "directory", .str "server"]), ("have", .tup [.str "server", .str "directory"]), ("content", .tup [.str "server", .str "server"]), ("receipt", .tup [.str "server", .str "server"])]) (eC (.fn "ROUTES")) (eOp wIx (eV 3) (eC (.int 0)))) (gT 2 (gsCons (gN 4) (gsCons (gN 5) (gsNil)))))
  (sSeq (sIf (cOr (cNot (cV (eCall f__is_party (aCons (eV 0) (aCons (eV 4) (aCons (eV 1) (aNil))))))) (cNot (cV (eCall f__is_party (aCons (eV 0) (aCons (eV 5) (aCons (eV 2) (aNil)))))))) (sRaise "BadLetter") (sNx))
  (sRt (eV 3)))))
noncomputable def f_check_letter_S : { f : FW // f = f_check_letter_B } := Classical.choice ⟨⟨_, rfl⟩⟩
noncomputable def f_check_letter : FW := f_check_letter_S.1
theorem f_check_letter_eq : f_check_letter = f_check_letter_B := f_check_letter_S.2
def f_Client___init___2_B : FW := fDef 3 3 (sSeq (sIf (cOr (cNot (cV (eCall f_is_client (aCons (eV 1) (aNil))))) (cNot (cV (eCall f_is_integer (aCons (eV 2) (aCons (eC (.int 1)) (aCons (eC (.int 20)) (aNil)))))))) (sRaise "BadServer") (sNx))
  (sSeq (sFld ["Client"] (eV 0) "_name" (eV 1))
  (sSeq (sFld ["Client"] (eV 0) "_count" (eV 2))
  (sSeq (sFld ["Client"] (eV 0) "_routes" (eMak "Routes" f_Routes___init___2 (aNil)))
  (sSeq (sFld ["Client"] (eV 0) "_ops" (eLR (aNil)))
  (sFld ["Client"] (eV 0) "_accepted" (eLR (aNil))))))))
noncomputable def f_Client___init___2_S : { f : FW // f = f_Client___init___2_B } := Classical.choice ⟨⟨_, rfl⟩⟩
noncomputable def f_Client___init___2 : FW := f_Client___init___2_S.1
theorem f_Client___init___2_eq : f_Client___init___2 = f_Client___init___2_B := f_Client___init___2_S.2
def f_Client_tick_2_B : FW := fDef 1 1 (sRt (eMet "_send" [("Client", f_Client__send)] (eV 0) (aNil)))
noncomputable def f_Client_tick_2_S : { f : FW // f = f_Client_tick_2_B } := Classical.choice ⟨⟨_, rfl⟩⟩
noncomputable def f_Client_tick_2 : FW := f_Client_tick_2_S.1
theorem f_Client_tick_2_eq : f_Client_tick_2 = f_Client_tick_2_B := f_Client_tick_2_S.2
def f_Client__learn_2_B : FW := fDef 2 8 (sSeq (sAsg (eV 1) (gT 5 (gsCons (gN 3) (gsCons (gN 4) (gsCons (gN 5) (gsCons (gN 6) (gsCons (gN 7) (gsNil))))))))
  (sSeq (sEx (eMet "add" [("Routes", f_Routes_add_2)] (eFld ["Client"] (eV 0) "_routes") (aCons (eTup (aCons (eV 4) (aCons (eV 5) (aCons (eV 6) (aCons (eV 7) (aCons (eC (.int 0)) (aCons (eC (.str "")) (aNil)))))))) (aNil))))
  (sSeq (sSet 2 (eMet "pending" [("Client", f_Client_pending)] (eV 0) (aNil)))
  (sSeq (sIf (cOr (cV (eOp wIs (eV 2) (eC .non))) (cNot (cV (eCall f_contains (aCons (eV 4) (aCons (eV 5) (aCons (eCall f_place (aCons (eOp wIx (eV 2) (eC (.int 1))) (aNil))) (aNil)))))))) (sRt (eLV (aNil))) (sNx))
  (sRt (eMet "_send" [("Client", f_Client__send)] (eV 0) (aNil)))))))
noncomputable def f_Client__learn_2_S : { f : FW // f = f_Client__learn_2_B } := Classical.choice ⟨⟨_, rfl⟩⟩
noncomputable def f_Client__learn_2 : FW := f_Client__learn_2_S.1
theorem f_Client__learn_2_eq : f_Client__learn_2 = f_Client__learn_2_B := f_Client__learn_2_S.2
def f_Client__is_pending_2_B : FW := fDef 2 3 (sSeq (sSet 2 (eMet "pending" [("Client", f_Client_pending)] (eV 0) (aNil)))
  (sRt (eAnd (eOp wIsnt (eV 2) (eC .non)) (eOp wEqu (eOp wIx (eV 2) (eC (.int 0))) (eV 1)))))
noncomputable def f_Client__is_pending_2_S : { f : FW // f = f_Client__is_pending_2_B } := Classical.choice ⟨⟨_, rfl⟩⟩
noncomputable def f_Client__is_pending_2 : FW := f_Client__is_pending_2_S.1
theorem f_Client__is_pending_2_eq : f_Client__is_pending_2 = f_Client__is_pending_2_B := f_Client__is_pending_2_S.2
def f_Client__forget_2_B : FW := fDef 3 5 (sJn (sIf (cV (eMet "_is_pending" [("Client", f_Client__is_pending_2)] (eV 0) (aCons (eOp wIx (eV 2) (eC (.int 1))) (aNil)))) (sSeq (sSet 3 (eCall f_place (aCons (eOp wIx (eMet "pending" [("Client", f_Client_pending)] (eV 0) (aNil)) (eC (.int 1))) (aNil))))
  (sSeq (sSet 4 (eMet "find" [("Routes", f_Routes_find)] (eFld ["Client"] (eV 0) "_routes") (aCons (eV 3) (aNil))))
  (sIf (cAnd (cV (eOp wIsnt (eV 4) (eC .non))) (cV (eOp wEqu (eOp wIx (eOp wIx (eV 4) (eC (.int 2))) (eC (.int 3))) (eV 1)))) (sEx (eMet "drop" [("Routes", f_Routes_drop_2)] (eFld ["Client"] (eV 0) "_routes") (aCons (eV 3) (aNil)))) (sNx)))) (sNx))
  (sRt (eLV (aNil))))
noncomputable def f_Client__forget_2_S : { f : FW // f = f_Client__forget_2_B } := Classical.choice ⟨⟨_, rfl⟩⟩
noncomputable def f_Client__forget_2 : FW := f_Client__forget_2_S.1
theorem f_Client__forget_2_eq : f_Client__forget_2 = f_Client__forget_2_B := f_Client__forget_2_S.2
def f_Client__accept_2_B : FW := fDef 2 5 (sSeq (sAsg (eV 1) (gT 3 (gsCons (gN 2) (gsCons (gN 3) (gsCons (gN 4) (gsNil))))))
  (sSeq (sIf (cNot (cV (eMet "_is_pending" [("Client", f_Client__is_pending_2)] (eV 0) (aCons (eV 3) (aNil))))) (sRt (eLV (aNil))) (sNx))
  (sSeq (sEx (eBm tyL mApp (eFld ["Client"] (eV 0) "_accepted") (aCons (eOp wAdd (eMet "pending" [("Client", f_Client_pending)] (eV 0) (aNil)) (eTup (aCons (eV 4) (aNil)))) (aNil))))
  (sRt (eMet "_send" [("Client", f_Client__send)] (eV 0) (aNil))))))
noncomputable def f_Client__accept_2_S : { f : FW // f = f_Client__accept_2_B } := Classical.choice ⟨⟨_, rfl⟩⟩
noncomputable def f_Client__accept_2 : FW := f_Client__accept_2_S.1
theorem f_Client__accept_2_eq : f_Client__accept_2 = f_Client__accept_2_B := f_Client__accept_2_S.2
def f_Client_receive_2_B : FW := fDef 3 3 (sJn (sTry ["TableError", "BadOperation", "BadLetter", "BadServer"] (sEx (eCall f_check_letter (aCons (eFld ["Client"] (eV 0) "_count") (aCons (eV 1) (aCons (eFld ["Client"] (eV 0) "_name") (aCons (eV 2) (aNil))))))) [(["BadLetter"], sRt (eLV (aNil)))])
  (sSeq (sIf (cV (eOp wEqu (eOp wIx (eV 2) (eC (.int 0))) (eC (.str "there")))) (sRt (eMet "_learn" [("Client", f_Client__learn_2)] (eV 0) (aCons (eV 2) (aNil)))) (sNx))
  (sSeq (sIf (cV (eOp wEqu (eOp wIx (eV 2) (eC (.int 0))) (eC (.str "elsewhere")))) (sRt (eMet "_forget" [("Client", f_Client__forget_2)] (eV 0) (aCons (eV 1) (aCons (eV 2) (aNil))))) (sNx))
  (sRt (eMet "_accept" [("Client", f_Client__accept_2)] (eV 0) (aCons (eV 2) (aNil)))))))
noncomputable def f_Client_receive_2_S : { f : FW // f = f_Client_receive_2_B } := Classical.choice ⟨⟨_, rfl⟩⟩
noncomputable def f_Client_receive_2 : FW := f_Client_receive_2_S.1
theorem f_Client_receive_2_eq : f_Client_receive_2 = f_Client_receive_2_B := f_Client_receive_2_S.2
def f_Client_accepted_2_B : FW := fDef 1 1 (sRt (eB bLsR (aCons (eFld ["Client"] (eV 0) "_accepted") (aNil))))
noncomputable def f_Client_accepted_2_S : { f : FW // f = f_Client_accepted_2_B } := Classical.choice ⟨⟨_, rfl⟩⟩
noncomputable def f_Client_accepted_2 : FW := f_Client_accepted_2_S.1
theorem f_Client_accepted_2_eq : f_Client_accepted_2 = f_Client_accepted_2_B := f_Client_accepted_2_S.2
def f_Client_pieces_2_B : FW := fDef 1 1 (sRt (eMet "pieces" [("Routes", f_Routes_pieces_2)] (eFld ["Client"] (eV 0) "_routes") (aNil)))
noncomputable def f_Client_pieces_2_S : { f : FW // f = f_Client_pieces_2_B } := Classical.choice ⟨⟨_, rfl⟩⟩
noncomputable def f_Client_pieces_2 : FW := f_Client_pieces_2_S.1
theorem f_Client_pieces_2_eq : f_Client_pieces_2 = f_Client_pieces_2_B := f_Client_pieces_2_S.2
def f__law_part_B : FW := fDef 1 3 (sSeq (sSet 1 (eC (.int 0)))
  (sSeq (sFor (iSq (eLV (aCons (eC (.str "d")) (aCons (eC (.str "k")) (aCons (eC (.str "m")) (aNil)))))) (gN 2) (sIf (cV (eOp wGe (eV 0) (eV 2))) (sSet 1 (eOp wAdd (eV 1) (eC (.int 1)))) (sNx)))
  (sRt (eV 1))))
noncomputable def f__law_part_S : { f : FW // f = f__law_part_B } := Classical.choice ⟨⟨_, rfl⟩⟩
noncomputable def f__law_part : FW := f__law_part_S.1
theorem f__law_part_eq : f__law_part = f__law_part_B := f__law_part_S.2
def f__law_letters_B : FW := fDef 1 4 (sSeq (sSet 1 (eOp wAdd (eB bLen (aCons (eOp wIx (eV 0) (eC (.str "done"))) (aNil))) (eC (.int 1))))
  (sSeq (sIf (cV (eOp wGt (eV 1) (eB bLen (aCons (eOp wIx (eV 0) (eC (.str "queue"))) (aNil))))) (sRt (eLV (aNil))) (sNx))
  (sSeq (sSet 2 (eOp wIx (eOp wIx (eV 0) (eC (.str "queue"))) (eOp wSub (eV 1) (eC (.int 1)))))
  (sSeq (sSet 3 (eOp wIx (eOp wIx (eV 0) (eC (.str "routes"))) (eCall f__law_part (aCons (eOp wIx (eV 2) (eC (.int 1))) (aNil)))))
  (sSeq (sIf (cV (eOp wIs (eV 3) (eC .non))) (sRt (eLV (aCons (eTup (aCons (eC (.int 1000)) (aCons (eTup (aCons (eC (.str "where")) (aCons (eOp wIx (eV 2) (eC (.int 1))) (aNil)))) (aNil)))) (aNil)))) (sNx))
  (sRt (eLV (aCons (eTup (aCons (eOp wIx (eV 3) (eC (.int 1))) (aCons (eTup (aCons (eC (.str "ask")) (aCons (eV 1) (aCons (eV 2) (aNil))))) (aNil)))) (aNil)))))))))
noncomputable def f__law_letters_S : { f : FW // f = f__law_letters_B } := Classical.choice ⟨⟨_, rfl⟩⟩
noncomputable def f__law_letters : FW := f__law_letters_S.1
theorem f__law_letters_eq : f__law_letters = f__law_letters_B := f__law_letters_S.2
def f__law_there_B : FW := fDef 3 12 (sSeq (sSet 3 (eLV (aCons (eC (.str "")) (aCons (eC (.str "d")) (aCons (eC (.str "k")) (aCons (eC (.str "m")) (aCons (eC .non) (aNil))))))))
  (sSeq (sSet 4 (eOp wMod (eV 1) (eC (.int 4))))
  (sSeq (sSet 5 (eOp wAdd (eOp wAdd (eV 4) (eC (.int 1))) (eOp wMod (eOp wFdv (eV 1) (eC (.int 4))) (eOp wSub (eC (.int 4)) (eV 4)))))
  (sSeq (sSet 6 (eOp wAdd (eC (.int 1)) (eOp wMod (eOp wFdv (eV 1) (eC (.int 16))) (eC (.int 4)))))
  (sSeq (sSet 7 (eOp wMod (eOp wFdv (eV 1) (eC (.int 64))) (eOp wIx (eV 0) (eC (.str "count")))))
  (sSeq (sSet 8 (eOp wIx (eV 0) (eC (.str "routes"))))
  (sSeq (sFor (iR2 (aCons (eV 4) (aCons (eV 5) (aNil)))) (gN 9) (sIf (cOr (cV (eOp wIs (eOp wIx (eV 8) (eV 9)) (eC .non))) (cV (eOp wLe (eOp wIx (eOp wIx (eV 8) (eV 9)) (eC (.int 0))) (eV 6)))) (sPut (eV 8) (eV 9) (eTup (aCons (eV 6) (aCons (eV 7) (aCons (eV 2) (aCons (eTup (aCons (eOp wIx (eV 3) (eV 4)) (aCons (eOp wIx (eV 3) (eV 5)) (aCons (eV 6) (aCons (eV 7) (aCons (eC (.int 0)) (aCons (eC (.str "")) (aNil)))))))) (aNil))))))) (sNx)))
  (sSeq (sSet 10 (eTup (aCons (eC (.str "there")) (aCons (eOp wIx (eV 3) (eV 4)) (aCons (eOp wIx (eV 3) (eV 5)) (aCons (eV 6) (aCons (eV 7) (aNil))))))))
  (sSeq (sSet 11 (eOp wAdd (eB bLen (aCons (eOp wIx (eV 0) (eC (.str "done"))) (aNil))) (eC (.int 1))))
  (sSeq (sIf (cAnd (cV (eOp wLe (eV 11) (eB bLen (aCons (eOp wIx (eV 0) (eC (.str "queue"))) (aNil))))) (cV (eChain wLe wLt (eV 4) (eCall f__law_part (aCons (eOp wIx (eOp wIx (eOp wIx (eV 0) (eC (.str "queue"))) (eOp wSub (eV 11) (eC (.int 1)))) (eC (.int 1))) (aNil))) (eV 5)))) (sRt (eTup (aCons (eV 10) (aCons (eCall f__law_letters (aCons (eV 0) (aNil))) (aNil))))) (sNx))
  (sRt (eTup (aCons (eV 10) (aCons (eLV (aNil)) (aNil)))))))))))))))
noncomputable def f__law_there_S : { f : FW // f = f__law_there_B } := Classical.choice ⟨⟨_, rfl⟩⟩
noncomputable def f__law_there : FW := f__law_there_S.1
theorem f__law_there_eq : f__law_there = f__law_there_B := f__law_there_S.2
def f__law_elsewhere_B : FW := fDef 3 8 (sSeq (sIf (cOr (cV (eOp wNeq (eV 1) (eOp wAdd (eB bLen (aCons (eOp wIx (eV 0) (eC (.str "done"))) (aNil))) (eC (.int 1))))) (cV (eOp wGt (eV 1) (eB bLen (aCons (eOp wIx (eV 0) (eC (.str "queue"))) (aNil)))))) (sRt (eLV (aNil))) (sNx))
  (sSeq (sSet 3 (eCall f__law_part (aCons (eOp wIx (eOp wIx (eOp wIx (eV 0) (eC (.str "queue"))) (eOp wSub (eV 1) (eC (.int 1)))) (eC (.int 1))) (aNil))))
  (sSeq (sSet 4 (eOp wIx (eV 0) (eC (.str "routes"))))
  (sSeq (sSet 5 (eOp wIx (eV 4) (eV 3)))
  (sSeq (sIf (cOr (cV (eOp wIs (eV 5) (eC .non))) (cV (eOp wNeq (eOp wIx (eV 5) (eC (.int 1))) (eV 2)))) (sRt (eLV (aNil))) (sNx))
  (sSeq (sFor (iSq (eLV (aCons (eUn wNeg (eC (.int 1))) (aCons (eC (.int 1)) (aNil))))) (gN 6) (sSeq (sSet 7 (eOp wAdd (eV 3) (eV 6)))
  (itWh (cAnd (cV (eOp wGe (eV 7) (eC (.int 0)))) (cAnd (cV (eOp wLt (eV 7) (eC (.int 4)))) (cV (eOp wEqu (eOp wIx (eV 4) (eV 7)) (eV 5))))) (sSeq (sPut (eV 4) (eV 7) (eC .non))
  (sSet 7 (eOp wAdd (eV 7) (eV 6)))))))
  (sSeq (sPut (eV 4) (eV 3) (eC .non))
  (sRt (eLV (aNil))))))))))
noncomputable def f__law_elsewhere_S : { f : FW // f = f__law_elsewhere_B } := Classical.choice ⟨⟨_, rfl⟩⟩
noncomputable def f__law_elsewhere : FW := f__law_elsewhere_S.1
theorem f__law_elsewhere_eq : f__law_elsewhere = f__law_elsewhere_B := f__law_elsewhere_S.2
def f__law_answer_B : FW := fDef 3 4 (sSeq (sIf (cOr (cV (eOp wNeq (eV 1) (eOp wAdd (eB bLen (aCons (eOp wIx (eV 0) (eC (.str "done"))) (aNil))) (eC (.int 1))))) (cV (eOp wGt (eV 1) (eB bLen (aCons (eOp wIx (eV 0) (eC (.str "queue"))) (aNil)))))) (sRt (eLV (aNil))) (sNx))
  (sSeq (sSet 3 (eOp wIx (eV 0) (eC (.str "done"))))
  (sSeq (sEx (eBm tyL mApp (eV 3) (aCons (eTup (aCons (eV 1) (aCons (eOp wIx (eOp wIx (eV 0) (eC (.str "queue"))) (eOp wSub (eV 1) (eC (.int 1)))) (aCons (eV 2) (aNil))))) (aNil))))
  (sRt (eCall f__law_letters (aCons (eV 0) (aNil)))))))
noncomputable def f__law_answer_S : { f : FW // f = f__law_answer_B } := Classical.choice ⟨⟨_, rfl⟩⟩
noncomputable def f__law_answer : FW := f__law_answer_S.1
theorem f__law_answer_eq : f__law_answer = f__law_answer_B := f__law_answer_S.2
def f__law_strange_B : FW := fDef 3 6 (sSeq (sSet 3 (eOp wAdd (eB bLen (aCons (eOp wIx (eV 1) (eC (.str "done"))) (aNil))) (eC (.int 1))))
  (sSeq (sSet 4 (eOp wIx (eLV (aCons (eOp wIx (eV 1) (eC (.str "count"))) (aCons (eUn wNeg (eC (.int 5))) (aCons (eUn wNeg (eC (.int 1))) (aCons (eC (.int 1000)) (aCons (eC (.int 0)) (aCons (eC (.bl true)) (aCons (eC .non) (aNil))))))))) (eOp wMod (eV 2) (eC (.int 7)))))
  (sSeq (sSet 5 (eTup (aCons (eC (.str "answer")) (aCons (eV 3) (aCons (eTup (aCons (eC (.str "done")) (aNil))) (aNil))))))
  (sJn (sIf (cV (eOp wEqu (eV 4) (eC (.int 0)))) (sSet 5 (eOp wIx (eLV (aCons (eTup (aCons (eC (.str "answer")) (aCons (eV 3) (aCons (eC (.str "done")) (aNil))))) (aCons (eTup (aCons (eC (.str "where")) (aCons (eC (.str "a")) (aNil)))) (aCons (eC (.int 7)) (aCons (eTup (aCons (eC (.str "answer")) (aCons (eV 3) (aNil)))) (aCons (eTup (aCons (eC (.str "there")) (aCons (eC (.str "")) (aCons (eC .non) (aCons (eC (.int 1)) (aCons (eC (.int 0)) (aNil))))))) (aNil))))))) (eOp wMod (eOp wFdv (eV 2) (eC (.int 7))) (eC (.int 5))))) (sNx))
  (sRt (eOp wEqu (eMet "receive" [("Client", f_Client_receive_2)] (eV 0) (aCons (eV 4) (aCons (eV 5) (aNil)))) (eLV (aNil))))))))
noncomputable def f__law_strange_S : { f : FW // f = f__law_strange_B } := Classical.choice ⟨⟨_, rfl⟩⟩
noncomputable def f__law_strange : FW := f__law_strange_S.1
theorem f__law_strange_eq : f__law_strange = f__law_strange_B := f__law_strange_S.2
def f__law_call_2_B : FW := fDef 4 13 (sSeq (sSet 4 (eOp wMod (eV 2) (eC (.int 8))))
  (sSeq (sSet 5 (eOp wFdv (eV 2) (eC (.int 8))))
  (sSeq (sSet 6 (eB bMax (aCons (eC (.int 1)) (aCons (eOp wAdd (eB bLen (aCons (eOp wIx (eV 1) (eC (.str "done"))) (aNil))) (eOp wIx (eLV (aCons (eC (.int 1)) (aCons (eC (.int 1)) (aCons (eC (.int 1)) (aCons (eC (.int 0)) (aCons (eC (.int 2)) (aNil))))))) (eOp wMod (eV 5) (eC (.int 5))))) (aNil)))))
  (sSeq (sSet 7 (eOp wMod (eOp wFdv (eV 5) (eC (.int 5))) (eOp wIx (eV 1) (eC (.str "count")))))
  (sSeq (sIf (cOr (cV (eOp wEqu (eV 4) (eC (.int 0)))) (cV (eOp wEqu (eV 4) (eC (.int 1))))) (sSeq (sSet 8 (eCall f__law_operation (aCons (eV 5) (aNil))))
  (sSeq (sSet 9 (eOp wIx (eV 1) (eC (.str "queue"))))
  (sSeq (sEx (eBm tyL mApp (eV 9) (aCons (eV 8) (aNil))))
  (sSeq (sSet 10 (eIf (cV (eOp wEqu (eB bLen (aCons (eV 9) (aNil))) (eOp wAdd (eB bLen (aCons (eOp wIx (eV 1) (eC (.str "done"))) (aNil))) (eC (.int 1))))) (eCall f__law_letters (aCons (eV 1) (aNil))) (eLV (aNil))))
  (sRt (eOp wEqu (eMet "submit" [("Client", f_Client_submit)] (eV 0) (aCons (eV 8) (aNil))) (eV 10))))))) (sNx))
  (sSeq (sIf (cV (eOp wEqu (eV 4) (eC (.int 2)))) (sRt (eOp wEqu (eMet "tick" [("Client", f_Client_tick_2)] (eV 0) (aNil)) (eCall f__law_letters (aCons (eV 1) (aNil))))) (sNx))
  (sSeq (sIf (cOr (cV (eOp wEqu (eV 4) (eC (.int 3)))) (cV (eOp wEqu (eV 4) (eC (.int 4))))) (sSeq (sAsg (eCall f__law_there (aCons (eV 1) (aCons (eV 5) (aCons (eV 3) (aNil))))) (gT 2 (gsCons (gN 12) (gsCons (gN 10) (gsNil)))))
  (sRt (eOp wEqu (eMet "receive" [("Client", f_Client_receive_2)] (eV 0) (aCons (eC (.int 1000)) (aCons (eV 12) (aNil)))) (eV 10)))) (sNx))
  (sSeq (sIf (cV (eOp wEqu (eV 4) (eC (.int 5)))) (sSeq (sSet 10 (eCall f__law_elsewhere (aCons (eV 1) (aCons (eV 6) (aCons (eV 7) (aNil))))))
  (sRt (eOp wEqu (eMet "receive" [("Client", f_Client_receive_2)] (eV 0) (aCons (eV 7) (aCons (eTup (aCons (eC (.str "elsewhere")) (aCons (eV 6) (aNil)))) (aNil)))) (eV 10)))) (sNx))
  (sSeq (sIf (cV (eOp wEqu (eV 4) (eC (.int 6)))) (sSeq (sSet 11 (eOp wIx (eLV (aCons (eTup (aCons (eC (.str "done")) (aNil))) (aCons (eTup (aCons (eC (.str "none")) (aNil))) (aCons (eTup (aCons (eC (.str "value")) (aCons (eC (.str "x")) (aNil)))) (aNil))))) (eOp wMod (eOp wFdv (eV 5) (eC (.int 25))) (eC (.int 3)))))
  (sSeq (sSet 10 (eCall f__law_answer (aCons (eV 1) (aCons (eV 6) (aCons (eV 11) (aNil))))))
  (sRt (eOp wEqu (eMet "receive" [("Client", f_Client_receive_2)] (eV 0) (aCons (eV 7) (aCons (eTup (aCons (eC (.str "answer")) (aCons (eV 6) (aCons (eV 11) (aNil))))) (aNil)))) (eV 10))))) (sNx))
  (sRt (eCall f__law_strange (aCons (eV 0) (aCons (eV 1) (aCons (eV 5) (aNil)))))))))))))))
noncomputable def f__law_call_2_S : { f : FW // f = f__law_call_2_B } := Classical.choice ⟨⟨_, rfl⟩⟩
noncomputable def f__law_call_2 : FW := f__law_call_2_S.1
theorem f__law_call_2_eq : f__law_call_2 = f__law_call_2_B := f__law_call_2_S.2
def f__law_pieces_2_B : FW := fDef 1 6 (sSeq (sSet 1 (eLV (aCons (eC (.str "")) (aCons (eC (.str "d")) (aCons (eC (.str "k")) (aCons (eC (.str "m")) (aCons (eC .non) (aNil))))))))
  (sSeq (sSet 2 (eLR (aNil)))
  (sSeq (sSet 3 (eC .non))
  (sSeq (sFor (iR1 (aCons (eC (.int 4)) (aNil))) (gN 4) (sSeq (sSet 5 (eOp wIx (eV 0) (eV 4)))
  (sJn (sIf (cAnd (cV (eOp wIsnt (eV 5) (eC .non))) (cV (eOp wEqu (eV 5) (eV 3)))) (sPut (eV 2) (eUn wNeg (eC (.int 1))) (eTup (aCons (eOp wIx (eOp wIx (eV 2) (eUn wNeg (eC (.int 1)))) (eC (.int 0))) (aCons (eOp wIx (eV 1) (eOp wAdd (eV 4) (eC (.int 1)))) (aCons (eOp wIx (eV 5) (eC (.int 3))) (aNil)))))) (sIf (cV (eOp wIsnt (eV 5) (eC .non))) (sEx (eBm tyL mApp (eV 2) (aCons (eTup (aCons (eOp wIx (eV 1) (eV 4)) (aCons (eOp wIx (eV 1) (eOp wAdd (eV 4) (eC (.int 1)))) (aCons (eOp wIx (eV 5) (eC (.int 3))) (aNil))))) (aNil)))) (sNx)))
  (sSet 3 (eV 5)))))
  (sRt (eV 2))))))
noncomputable def f__law_pieces_2_S : { f : FW // f = f__law_pieces_2_B } := Classical.choice ⟨⟨_, rfl⟩⟩
noncomputable def f__law_pieces_2 : FW := f__law_pieces_2_S.1
theorem f__law_pieces_2_eq : f__law_pieces_2 = f__law_pieces_2_B := f__law_pieces_2_S.2
def f__law_same_2_B : FW := fDef 2 5 (sSeq (sSet 2 (eOp wAdd (eB bLen (aCons (eOp wIx (eV 1) (eC (.str "done"))) (aNil))) (eC (.int 1))))
  (sSeq (sSet 3 (eMet "pending" [("Client", f_Client_pending)] (eV 0) (aNil)))
  (sJn (sIf (cV (eOp wGt (eV 2) (eB bLen (aCons (eOp wIx (eV 1) (eC (.str "queue"))) (aNil))))) (sIf (cV (eOp wIsnt (eV 3) (eC .non))) (sRt (eC (.bl false))) (sNx)) (sIf (cV (eOp wNeq (eV 3) (eTup (aCons (eV 2) (aCons (eOp wIx (eOp wIx (eV 1) (eC (.str "queue"))) (eOp wSub (eV 2) (eC (.int 1)))) (aNil)))))) (sRt (eC (.bl false))) (sNx)))
  (sSeq (sSet 4 (eMet "accepted" [("Client", f_Client_accepted_2)] (eV 0) (aNil)))
  (sSeq (sIf (cOr (cNot (cV (eIsi .lst (eV 4)))) (cV (eOp wNeq (eV 4) (eOp wIx (eV 1) (eC (.str "done")))))) (sRt (eC (.bl false))) (sNx))
  (sSeq (sEx (eBm tyL mApp (eV 4) (aCons (eC (.int 0)) (aNil))))
  (sRt (eAnd (eOp wEqu (eMet "accepted" [("Client", f_Client_accepted_2)] (eV 0) (aNil)) (eOp wIx (eV 1) (eC (.str "done")))) (eOp wEqu (eMet "pieces" [("Client", f_Client_pieces_2)] (eV 0) (aNil)) (eCall f__law_pieces_2 (aCons (eOp wIx (eV 1) (eC (.str "routes"))) (aNil))))))))))))
noncomputable def f__law_same_2_S : { f : FW // f = f__law_same_2_B } := Classical.choice ⟨⟨_, rfl⟩⟩
noncomputable def f__law_same_2 : FW := f__law_same_2_S.1
theorem f__law_same_2_eq : f__law_same_2 = f__law_same_2_B := f__law_same_2_S.2
def f_law_12_B : FW := fDef 1 5 (sSeq (sSet 1 (eOp wAdd (eC (.int 1)) (eOp wMod (eCall f__law_cell_2 (aCons (eV 0) (aCons (eC (.int 0)) (aNil)))) (eC (.int 4)))))
  (sSeq (sSet 2 (eMak "Client" f_Client___init___2 (aCons (eUn wNeg (eC (.int 5))) (aCons (eV 1) (aNil)))))
  (sSeq (sSet 3 (eDs (dCons (eC (.str "count")) (eV 1) (dCons (eC (.str "queue")) (eLR (aNil)) (dCons (eC (.str "done")) (eLR (aNil)) (dCons (eC (.str "routes")) (eLR (aCons (eC .non) (aCons (eC .non) (aCons (eC .non) (aCons (eC .non) (aNil)))))) (dNil)))))))
  (sSeq (sFor (iR2 (aCons (eC (.int 1)) (aCons (eB bLen (aCons (eV 0) (aNil))) (aNil)))) (gN 4) (sSeq (sIf (cNot (cV (eCall f__law_call_2 (aCons (eV 2) (aCons (eV 3) (aCons (eCall f__law_rich (aCons (eOp wIx (eV 0) (eV 4)) (aCons (eV 4) (aNil)))) (aCons (eV 4) (aNil)))))))) (sRt (eC (.bl false))) (sNx))
  (sIf (cNot (cV (eCall f__law_same_2 (aCons (eV 2) (aCons (eV 3) (aNil)))))) (sRt (eC (.bl false))) (sNx))))
  (sRt (eCall f__law_same_2 (aCons (eV 2) (aCons (eV 3) (aNil)))))))))
noncomputable def f_law_12_S : { f : FW // f = f_law_12_B } := Classical.choice ⟨⟨_, rfl⟩⟩
noncomputable def f_law_12 : FW := f_law_12_S.1
theorem f_law_12_eq : f_law_12 = f_law_12_B := f_law_12_S.2
end Q
namespace K58
open PySem PySem.Spec PyProof.Rows L2 Evl Q
section
variable {P : Program} {w : World} {K : Frag} {mg : Str → Option Value} {base : Heap}
theorem sc_is_key : FnScope ["value", "character"] ["value"] (defScope s_is_key) := ⟨rfl, rfl, rfl, by decide +kernel, rfl, by decide +kernel, by decide +kernel⟩
theorem ok_is_key {f : Addr} {fd : FuncData} (F : FnM K "is_key" "is_key" s_is_key f fd) (z_len : mg "len" = none) (c_MOST_KEY : ∃ t, mg "MOST_KEY" = some (.int 8 t)) (z_isinstance : mg "isinstance" = none) (z_str : mg "str" = none) :
    FnOk P w K mg base (L2N.CX P w) 1 f fd ["value"] (spF K f_is_key) := by
  rw [f_is_key_eq]
  exact fn_w F sc_is_key (by decide) fun cdv A outer s H E hr tk po pa => (qss_cons (qs_if (QW.qt (qw_or (qt_not (qt_val (qe_isi .str (by rfl) z_isinstance (by rfl) z_str (by decide +kernel) (qv 0)))) (qw_or1 (qt_not (qt_chain opU_le opU_le qe_int (qe_b cb_len (by rfl) z_len (by decide +kernel) (qa_cons (qv 0) qa_nil)) (qe_gint (by rfl) c_MOST_KEY)))))) (qss_one (qs_ret qe_bl)) qss_nil)
      (qss_cons (qs_for po (by rfl) (qi_seq (qv 0)) (qg_name (i := 1) sc_is_key.nd rfl (Or.inl rfl)) (qss_one (qs_if (qt_not (qt_chain opU_le opU_le qe_str (qv 1) qe_str)) (qss_one (qs_ret qe_bl)) qss_nil)))
      (qss_one (qs_ret qe_bl))))
theorem sc_is_bound : FnScope ["value"] ["value"] (defScope s_is_bound) := ⟨rfl, rfl, rfl, by decide +kernel, rfl, by decide +kernel, by decide +kernel⟩
theorem ok_is_bound {f : Addr} {fd : FuncData} (F : FnM K "is_bound" "is_bound" s_is_bound f fd) (z_isinstance : mg "isinstance" = none) (z_str : mg "str" = none) (D_is_key : DefQ P w K mg base 1 "is_key" ["value"] f_is_key) :
    FnOk P w K mg base (L2N.CX P w) 2 f fd ["value"] (spF K f_is_bound) := by
  rw [f_is_bound_eq]
  exact fn_w F sc_is_bound (by decide) fun cdv A outer s H E hr tk po pa => (qss_one (qs_ret (qe_or (qe_call tk.px D_is_key (hr.mono (by decide)) (by rfl) (qa_cons (qv 0) qa_nil)) (qe_one (qe_and (qe_isi .str (by rfl) z_isinstance (by rfl) z_str (by decide +kernel) (qv 0)) (qe_one (qe_cmp (opU_equ hr.units) (qv 0) qe_str (nomark _))))))))
theorem sc_is_range : FnScope ["low", "high"] ["low", "high"] (defScope s_is_range) := ⟨rfl, rfl, rfl, by decide +kernel, rfl, by decide +kernel, by decide +kernel⟩
theorem ok_is_range {f : Addr} {fd : FuncData} (F : FnM K "is_range" "is_range" s_is_range f fd) (D_is_bound : DefQ P w K mg base 2 "is_bound" ["value"] f_is_bound) (D_is_key : DefQ P w K mg base 1 "is_key" ["value"] f_is_key) :
    FnOk P w K mg base (L2N.CX P w) 3 f fd ["low", "high"] (spF K f_is_range) := by
  rw [f_is_range_eq]
  exact fn_w F sc_is_range (by decide) fun cdv A outer s H E hr tk po pa => (qss_cons (qs_if (qt_not (qt_val (qe_call tk.px D_is_bound (hr.mono (by decide)) (by rfl) (qa_cons (qv 0) qa_nil)))) (qss_one (qs_ret qe_bl)) qss_nil)
      (qss_one (qs_ret (qe_or (qe_cmp opU_is (qv 1) qe_non (nomark _)) (qe_one (qe_and (qe_call tk.px D_is_key (hr.mono (by decide)) (by rfl) (qa_cons (qv 1) qa_nil)) (qe_one (qe_cmp opU_lt (qv 0) (qv 1) (nomark _)))))))))
theorem sc_below : FnScope ["one", "other"] ["one", "other"] (defScope s_below) := ⟨rfl, rfl, rfl, by decide +kernel, rfl, by decide +kernel, by decide +kernel⟩
theorem ok_below {f : Addr} {fd : FuncData} (F : FnM K "below" "below" s_below f fd)  :
    FnOk P w K mg base (L2N.CX P w) 1 f fd ["one", "other"] (spF K f_below) := by
  rw [f_below_eq]
  exact fn_w F sc_below (by decide) fun cdv A outer s H E hr tk po pa => (qss_cons (qs_if (qt_cmp opU_is (qv 0) qe_non (nomark _)) (qss_one (qs_ret qe_bl)) qss_nil)
      (qss_one (qs_ret (qe_or (qe_cmp opU_is (qv 1) qe_non (nomark _)) (qe_one (qe_cmp opU_lt (qv 0) (qv 1) (nomark _)))))))
theorem sc_contains : FnScope ["low", "high", "bound"] ["low", "high", "bound"] (defScope s_contains) := ⟨rfl, rfl, rfl, by decide +kernel, rfl, by decide +kernel, by decide +kernel⟩
theorem ok_contains {f : Addr} {fd : FuncData} (F : FnM K "contains" "contains" s_contains f fd) (D_below : DefQ P w K mg base 1 "below" ["one", "other"] f_below) :
    FnOk P w K mg base (L2N.CX P w) 2 f fd ["low", "high", "bound"] (spF K f_contains) := by
  rw [f_contains_eq]
  exact fn_w F sc_contains (by decide) fun cdv A outer s H E hr tk po pa => (qss_one (qs_ret (qe_and (qe_cmp opU_le (qv 0) (qv 2) (nomark _)) (qe_one (qe_call tk.px D_below (hr.mono (by decide)) (by rfl) (qa_cons (qv 2) (qa_cons (qv 1) qa_nil)))))))
theorem sc_overlap : FnScope ["low", "high", "other_low", "other_high"] ["low", "high", "other_low", "other_high"] (defScope s_overlap) := ⟨rfl, rfl, rfl, by decide +kernel, rfl, by decide +kernel, by decide +kernel⟩
theorem ok_overlap {f : Addr} {fd : FuncData} (F : FnM K "overlap" "overlap" s_overlap f fd) (D_below : DefQ P w K mg base 1 "below" ["one", "other"] f_below) :
    FnOk P w K mg base (L2N.CX P w) 2 f fd ["low", "high", "other_low", "other_high"] (spF K f_overlap) := by
  rw [f_overlap_eq]
  exact fn_w F sc_overlap (by decide) fun cdv A outer s H E hr tk po pa => (qss_one (qs_ret (qe_and (qe_call tk.px D_below (hr.mono (by decide)) (by rfl) (qa_cons (qv 0) (qa_cons (qv 3) qa_nil))) (qe_one (qe_call tk.px D_below (hr.mono (by decide)) (by rfl) (qa_cons (qv 2) (qa_cons (qv 1) qa_nil)))))))
theorem sc_is_printable : FnScope ["value", "character"] ["value"] (defScope s_is_printable) := ⟨rfl, rfl, rfl, by decide +kernel, rfl, by decide +kernel, by decide +kernel⟩
theorem ok_is_printable {f : Addr} {fd : FuncData} (F : FnM K "is_printable" "is_printable" s_is_printable f fd) (z_isinstance : mg "isinstance" = none) (z_str : mg "str" = none) (z_ord : mg "ord" = none) (c_BARRED : ∃ t, mg "BARRED" = some (.int 37 t)) :
    FnOk P w K mg base (L2N.CX P w) 1 f fd ["value"] (spF K f_is_printable) := by
  rw [f_is_printable_eq]
  exact fn_w F sc_is_printable (by decide) fun cdv A outer s H E hr tk po pa => (qss_cons (qs_if (qt_not (qt_val (qe_isi .str (by rfl) z_isinstance (by rfl) z_str (by decide +kernel) (qv 0)))) (qss_one (qs_ret qe_bl)) qss_nil)
      (qss_cons (qs_for po (by rfl) (qi_seq (qv 0)) (qg_name (i := 1) sc_is_printable.nd rfl (Or.inl rfl)) (qss_one (qs_if (QW.qt (qw_or (qt_not (qt_chain opU_le opU_le qe_str (qv 1) qe_str)) (qw_or1 (qt_cmp (opU_equ hr.units) (qe_b cb_ord (by rfl) z_ord (by decide +kernel) (qa_cons (qv 1) qa_nil)) (qe_gint (by rfl) c_BARRED) (nomark _))))) (qss_one (qs_ret qe_bl)) qss_nil)))
      (qss_one (qs_ret qe_bl))))
theorem sc_is_integer : FnScope ["value", "least", "greatest"] ["value", "least", "greatest"] (defScope s_is_integer) := ⟨rfl, rfl, rfl, by decide +kernel, rfl, by decide +kernel, by decide +kernel⟩
theorem ok_is_integer {f : Addr} {fd : FuncData} (F : FnM K "is_integer" "is_integer" s_is_integer f fd) (z_isinstance : mg "isinstance" = none) (z_bool : mg "bool" = none) (z_int : mg "int" = none) :
    FnOk P w K mg base (L2N.CX P w) 1 f fd ["value", "least", "greatest"] (spF K f_is_integer) := by
  rw [f_is_integer_eq]
  exact fn_w F sc_is_integer (by decide) fun cdv A outer s H E hr tk po pa => (qss_cons (qs_if (QW.qt (qw_or (qt_not (qt_val (qe_isi .int (by rfl) z_isinstance (by rfl) z_int (by decide +kernel) (qv 0)))) (qw_or1 (qt_val (qe_isi .bl (by rfl) z_isinstance (by rfl) z_bool (by decide +kernel) (qv 0)))))) (qss_one (qs_ret qe_bl)) qss_nil)
      (qss_one (qs_ret (qe_chn opU_le opU_le (qv 1) (qv 0) (qv 2)))))
theorem sc_kind_of : FnScope ["value"] ["value"] (defScope s_kind_of) := ⟨rfl, rfl, rfl, by decide +kernel, rfl, by decide +kernel, by decide +kernel⟩
theorem ok_kind_of {f : Addr} {fd : FuncData} (F : FnM K "kind_of" "kind_of" s_kind_of f fd) (z_isinstance : mg "isinstance" = none) (z_str : mg "str" = none) (z_len : mg "len" = none) (z_tuple : mg "tuple" = none) :
    FnOk P w K mg base (L2N.CX P w) 1 f fd ["value"] (spF K f_kind_of) := by
  rw [f_kind_of_eq]
  exact fn_w F sc_kind_of (by decide) fun cdv A outer s H E hr tk po pa => (qss_cons (qs_if (QW.qt (qw_and (qt_val (qe_isi .tup (by rfl) z_isinstance (by rfl) z_tuple (by decide +kernel) (qv 0))) (qw_and (qt_cmp opU_gt (qe_b cb_len (by rfl) z_len (by decide +kernel) (qa_cons (qv 0) qa_nil)) qe_int (nomark _)) (qw_and1 (qt_val (qe_isi .str (by rfl) z_isinstance (by rfl) z_str (by decide +kernel) (qe_ix hr.units (qv 0) qe_int (fun _ _ => rfl)))))))) (qss_one (qs_ret (qe_ix hr.units (qv 0) qe_int (fun _ _ => rfl)))) qss_nil)
      (qss_one (qs_ret qe_str)))
theorem sc_is_value : FnScope ["value"] ["value"] (defScope s_is_value) := ⟨rfl, rfl, rfl, by decide +kernel, rfl, by decide +kernel, by decide +kernel⟩
theorem ok_is_value {f : Addr} {fd : FuncData} (F : FnM K "is_value" "is_value" s_is_value f fd) (z_len : mg "len" = none) (c_MOST_VALUE : ∃ t, mg "MOST_VALUE" = some (.int 40 t)) (D_is_printable : DefQ P w K mg base 1 "is_printable" ["value"] f_is_printable) :
    FnOk P w K mg base (L2N.CX P w) 2 f fd ["value"] (spF K f_is_value) := by
  rw [f_is_value_eq]
  exact fn_w F sc_is_value (by decide) fun cdv A outer s H E hr tk po pa => (qss_one (qs_ret (qe_and (qe_call tk.px D_is_printable (hr.mono (by decide)) (by rfl) (qa_cons (qv 0) qa_nil)) (qe_one (qe_cmp opU_le (qe_b cb_len (by rfl) z_len (by decide +kernel) (qa_cons (qv 0) qa_nil)) (qe_gint (by rfl) c_MOST_VALUE) (nomark _))))))
theorem sc__is_pair : FnScope ["value"] ["value"] (defScope s__is_pair) := ⟨rfl, rfl, rfl, by decide +kernel, rfl, by decide +kernel, by decide +kernel⟩
theorem ok__is_pair {f : Addr} {fd : FuncData} (F : FnM K "_is_pair" "_is_pair" s__is_pair f fd) (D_is_value : DefQ P w K mg base 2 "is_value" ["value"] f_is_value) (D_is_key : DefQ P w K mg base 1 "is_key" ["value"] f_is_key) (z_len : mg "len" = none) (z_isinstance : mg "isinstance" = none) (z_tuple : mg "tuple" = none) :
    FnOk P w K mg base (L2N.CX P w) 3 f fd ["value"] (spF K f__is_pair) := by
  rw [f__is_pair_eq]
  exact fn_w F sc__is_pair (by decide) fun cdv A outer s H E hr tk po pa => (qss_one (qs_ret (qe_and (qe_isi .tup (by rfl) z_isinstance (by rfl) z_tuple (by decide +kernel) (qv 0)) (qe_and (qe_cmp (opU_equ hr.units) (qe_b cb_len (by rfl) z_len (by decide +kernel) (qa_cons (qv 0) qa_nil)) qe_int (nomark _)) (qe_and (qe_call tk.px D_is_key (hr.mono (by decide)) (by rfl) (qa_cons (qe_ix hr.units (qv 0) qe_int (fun _ _ => rfl)) qa_nil)) (qe_one (qe_call tk.px D_is_value (hr.mono (by decide)) (by rfl) (qa_cons (qe_ix hr.units (qv 0) qe_int (fun _ _ => rfl)) qa_nil))))))))
theorem sc_are_pairs : FnScope ["value", "last", "pair"] ["value"] (defScope s_are_pairs) := ⟨rfl, rfl, rfl, by decide +kernel, rfl, by decide +kernel, by decide +kernel⟩
theorem ok_are_pairs {f : Addr} {fd : FuncData} (F : FnM K "are_pairs" "are_pairs" s_are_pairs f fd) (z_isinstance : mg "isinstance" = none) (z_tuple : mg "tuple" = none) (D__is_pair : DefQ P w K mg base 3 "_is_pair" ["value"] f__is_pair) :
    FnOk P w K mg base (L2N.CX P w) 4 f fd ["value"] (spF K f_are_pairs) := by
  rw [f_are_pairs_eq]
  exact fn_w F sc_are_pairs (by decide) fun cdv A outer s H E hr tk po pa => (qss_cons (qs_if (qt_not (qt_val (qe_isi .tup (by rfl) z_isinstance (by rfl) z_tuple (by decide +kernel) (qv 0)))) (qss_one (qs_ret qe_bl)) qss_nil)
      (qss_cons (qs_set (i := 1) sc_are_pairs.nd rfl (Or.inl rfl) qe_str)
      (qss_cons (qs_for po (by rfl) (qi_seq (qv 0)) (qg_name (i := 2) sc_are_pairs.nd rfl (Or.inl rfl)) (qss_cons (qs_if (QW.qt (qw_or (qt_not (qt_val (qe_call tk.px D__is_pair (hr.mono (by decide)) (by rfl) (qa_cons (qv 2) qa_nil)))) (qw_or1 (qt_cmp opU_le (qe_ix hr.units (qv 2) qe_int (fun _ _ => rfl)) (qv 1) (nomark _))))) (qss_one (qs_ret qe_bl)) qss_nil)
      (qss_one (qs_set (i := 1) sc_are_pairs.nd rfl (Or.inl rfl) (qe_ix hr.units (qv 2) qe_int (fun _ _ => rfl))))))
      (qss_one (qs_ret qe_bl)))))
theorem sc__is_key_alone : FnScope ["op"] ["op"] (defScope s__is_key_alone) := ⟨rfl, rfl, rfl, by decide +kernel, rfl, by decide +kernel, by decide +kernel⟩
theorem ok__is_key_alone {f : Addr} {fd : FuncData} (F : FnM K "_is_key_alone" "_is_key_alone" s__is_key_alone f fd) (D_is_key : DefQ P w K mg base 1 "is_key" ["value"] f_is_key) (z_len : mg "len" = none) :
    FnOk P w K mg base (L2N.CX P w) 2 f fd ["op"] (spF K f__is_key_alone) := by
  rw [f__is_key_alone_eq]
  exact fn_w F sc__is_key_alone (by decide) fun cdv A outer s H E hr tk po pa => (qss_one (qs_ret (qe_and (qe_cmp (opU_equ hr.units) (qe_b cb_len (by rfl) z_len (by decide +kernel) (qa_cons (qv 0) qa_nil)) qe_int (nomark _)) (qe_one (qe_call tk.px D_is_key (hr.mono (by decide)) (by rfl) (qa_cons (qe_ix hr.units (qv 0) qe_int (fun _ _ => rfl)) qa_nil))))))
theorem sc__is_put : FnScope ["op"] ["op"] (defScope s__is_put) := ⟨rfl, rfl, rfl, by decide +kernel, rfl, by decide +kernel, by decide +kernel⟩
theorem ok__is_put {f : Addr} {fd : FuncData} (F : FnM K "_is_put" "_is_put" s__is_put f fd) (D_is_value : DefQ P w K mg base 2 "is_value" ["value"] f_is_value) (D_is_key : DefQ P w K mg base 1 "is_key" ["value"] f_is_key) (z_len : mg "len" = none) :
    FnOk P w K mg base (L2N.CX P w) 3 f fd ["op"] (spF K f__is_put) := by
  rw [f__is_put_eq]
  exact fn_w F sc__is_put (by decide) fun cdv A outer s H E hr tk po pa => (qss_one (qs_ret (qe_and (qe_cmp (opU_equ hr.units) (qe_b cb_len (by rfl) z_len (by decide +kernel) (qa_cons (qv 0) qa_nil)) qe_int (nomark _)) (qe_and (qe_call tk.px D_is_key (hr.mono (by decide)) (by rfl) (qa_cons (qe_ix hr.units (qv 0) qe_int (fun _ _ => rfl)) qa_nil)) (qe_one (qe_call tk.px D_is_value (hr.mono (by decide)) (by rfl) (qa_cons (qe_ix hr.units (qv 0) qe_int (fun _ _ => rfl)) qa_nil)))))))
theorem sc__is_swap : FnScope ["op"] ["op"] (defScope s__is_swap) := ⟨rfl, rfl, rfl, by decide +kernel, rfl, by decide +kernel, by decide +kernel⟩
theorem ok__is_swap {f : Addr} {fd : FuncData} (F : FnM K "_is_swap" "_is_swap" s__is_swap f fd) (D_is_value : DefQ P w K mg base 2 "is_value" ["value"] f_is_value) (D_is_key : DefQ P w K mg base 1 "is_key" ["value"] f_is_key) (z_len : mg "len" = none) :
    FnOk P w K mg base (L2N.CX P w) 3 f fd ["op"] (spF K f__is_swap) := by
  rw [f__is_swap_eq]
  exact fn_w F sc__is_swap (by decide) fun cdv A outer s H E hr tk po pa => (qss_one (qs_ret (qe_and (qe_cmp (opU_equ hr.units) (qe_b cb_len (by rfl) z_len (by decide +kernel) (qa_cons (qv 0) qa_nil)) qe_int (nomark _)) (qe_and (qe_call tk.px D_is_key (hr.mono (by decide)) (by rfl) (qa_cons (qe_ix hr.units (qv 0) qe_int (fun _ _ => rfl)) qa_nil)) (qe_and (qe_call tk.px D_is_value (hr.mono (by decide)) (by rfl) (qa_cons (qe_ix hr.units (qv 0) qe_int (fun _ _ => rfl)) qa_nil)) (qe_one (qe_call tk.px D_is_value (hr.mono (by decide)) (by rfl) (qa_cons (qe_ix hr.units (qv 0) qe_int (fun _ _ => rfl)) qa_nil))))))))
theorem sc__is_page : FnScope ["op"] ["op"] (defScope s__is_page) := ⟨rfl, rfl, rfl, by decide +kernel, rfl, by decide +kernel, by decide +kernel⟩
theorem ok__is_page {f : Addr} {fd : FuncData} (F : FnM K "_is_page" "_is_page" s__is_page f fd) (c_MOST_PAGE : ∃ t, mg "MOST_PAGE" = some (.int 50 t)) (D_is_integer : DefQ P w K mg base 1 "is_integer" ["value", "least", "greatest"] f_is_integer) (D_is_bound : DefQ P w K mg base 2 "is_bound" ["value"] f_is_bound) (z_len : mg "len" = none) :
    FnOk P w K mg base (L2N.CX P w) 3 f fd ["op"] (spF K f__is_page) := by
  rw [f__is_page_eq]
  exact fn_w F sc__is_page (by decide) fun cdv A outer s H E hr tk po pa => (qss_one (qs_ret (qe_and (qe_cmp (opU_equ hr.units) (qe_b cb_len (by rfl) z_len (by decide +kernel) (qa_cons (qv 0) qa_nil)) qe_int (nomark _)) (qe_and (qe_call tk.px D_is_bound (hr.mono (by decide)) (by rfl) (qa_cons (qe_ix hr.units (qv 0) qe_int (fun _ _ => rfl)) qa_nil)) (qe_one (qe_call tk.px D_is_integer (hr.mono (by decide)) (by rfl) (qa_cons (qe_ix hr.units (qv 0) qe_int (fun _ _ => rfl)) (qa_cons qe_int (qa_cons (qe_gint (by rfl) c_MOST_PAGE) qa_nil)))))))))
theorem sc_is_operation : FnScope ["value", "kind", "check"] ["value"] (defScope s_is_operation) := ⟨rfl, rfl, rfl, by decide +kernel, rfl, by decide +kernel, by decide +kernel⟩
theorem ok_is_operation {f : Addr} {fd : FuncData} (F : FnM K "is_operation" "is_operation" s_is_operation f fd) (D_kind_of : DefQ P w K mg base 1 "kind_of" ["value"] f_kind_of) (t_OPERATIONS : TabQ K w mg "OPERATIONS" [("get", .fn "_is_key_alone"), ("put", .fn "_is_put"), ("drop", .fn "_is_key_alone"), ("swap", .fn "_is_swap"), ("page", .fn "_is_page")]) (D__is_page : DefQ P w K mg base 3 "_is_page" ["op"] f__is_page) (gd__is_page : mg "_is_page" = some (.ref (He.ga K "_is_page"))) (D__is_swap : DefQ P w K mg base 3 "_is_swap" ["op"] f__is_swap) (gd__is_swap : mg "_is_swap" = some (.ref (He.ga K "_is_swap"))) (D__is_put : DefQ P w K mg base 3 "_is_put" ["op"] f__is_put) (gd__is_put : mg "_is_put" = some (.ref (He.ga K "_is_put"))) (D__is_key_alone : DefQ P w K mg base 2 "_is_key_alone" ["op"] f__is_key_alone) (gd__is_key_alone : mg "_is_key_alone" = some (.ref (He.ga K "_is_key_alone"))) :
    FnOk P w K mg base (L2N.CX P w) 4 f fd ["value"] (spF K f_is_operation) := by
  rw [f_is_operation_eq]
  exact fn_w F sc_is_operation (by decide) fun cdv A outer s H E hr tk po pa => (qss_cons (qs_set (i := 1) sc_is_operation.nd rfl (Or.inl rfl) (qe_call tk.px D_kind_of (hr.mono (by decide)) (by rfl) (qa_cons (qv 0) qa_nil)))
      (qss_cons (qs_if (qt_cmp (opU_tnin t_OPERATIONS) (qv 1) (qe_tab t_OPERATIONS (by rfl)) (by rfl)) (qss_one (qs_ret qe_bl)) qss_nil)
      (qss_cons (qs_set (i := 2) sc_is_operation.nd rfl (Or.inl rfl) (qe_tix t_OPERATIONS (qe_tab t_OPERATIONS (by rfl)) (qv 1) (fun _ _ => rfl)))
      (qss_one (qs_ret (qe_cl (k := 3) (i := 2) tk.px (defsC gd__is_key_alone (D__is_key_alone.mono (by decide)) (defsC gd__is_put (D__is_put.mono (by decide)) (defsC gd__is_swap (D__is_swap.mono (by decide)) (defsC gd__is_page (D__is_page.mono (by decide)) defsN)))) (hr.mono (by decide)) rfl (by first | exact Or.inl rfl | exact Or.inr (Or.inl rfl)) (qa_cons (qv 0) qa_nil)))))))
theorem sc_place : FnScope ["op"] ["op"] (defScope s_place) := ⟨rfl, rfl, rfl, by decide +kernel, rfl, by decide +kernel, by decide +kernel⟩
theorem ok_place {f : Addr} {fd : FuncData} (F : FnM K "place" "place" s_place f fd) (D_is_operation : DefQ P w K mg base 4 "is_operation" ["value"] f_is_operation) (x_BadOperation : ExcQ K mg "BadOperation") :
    FnOk P w K mg base (L2N.CX P w) 5 f fd ["op"] (spF K f_place) := by
  rw [f_place_eq]
  exact fn_w F sc_place (by decide) fun cdv A outer s H E hr tk po pa => (qss_cons (qs_if (qt_not (qt_val (qe_call tk.px D_is_operation (hr.mono (by decide)) (by rfl) (qa_cons (qv 0) qa_nil)))) (qss_one (qs_raise x_BadOperation (by rfl) tk (by rfl))) qss_nil)
      (qss_one (qs_ret (qe_ix hr.units (qv 0) qe_int (fun _ _ => rfl)))))
theorem sc__is_word_alone : FnScope ["answer"] ["answer"] (defScope s__is_word_alone) := ⟨rfl, rfl, rfl, by decide +kernel, rfl, by decide +kernel, by decide +kernel⟩
theorem ok__is_word_alone {f : Addr} {fd : FuncData} (F : FnM K "_is_word_alone" "_is_word_alone" s__is_word_alone f fd) (z_len : mg "len" = none) :
    FnOk P w K mg base (L2N.CX P w) 1 f fd ["answer"] (spF K f__is_word_alone) := by
  rw [f__is_word_alone_eq]
  exact fn_w F sc__is_word_alone (by decide) fun cdv A outer s H E hr tk po pa => (qss_one (qs_ret (qe_cmp (opU_equ hr.units) (qe_b cb_len (by rfl) z_len (by decide +kernel) (qa_cons (qv 0) qa_nil)) qe_int (nomark _))))
theorem sc__is_value_told : FnScope ["answer"] ["answer"] (defScope s__is_value_told) := ⟨rfl, rfl, rfl, by decide +kernel, rfl, by decide +kernel, by decide +kernel⟩
theorem ok__is_value_told {f : Addr} {fd : FuncData} (F : FnM K "_is_value_told" "_is_value_told" s__is_value_told f fd) (D_is_value : DefQ P w K mg base 2 "is_value" ["value"] f_is_value) (z_len : mg "len" = none) :
    FnOk P w K mg base (L2N.CX P w) 3 f fd ["answer"] (spF K f__is_value_told) := by
  rw [f__is_value_told_eq]
  exact fn_w F sc__is_value_told (by decide) fun cdv A outer s H E hr tk po pa => (qss_one (qs_ret (qe_and (qe_cmp (opU_equ hr.units) (qe_b cb_len (by rfl) z_len (by decide +kernel) (qa_cons (qv 0) qa_nil)) qe_int (nomark _)) (qe_one (qe_call tk.px D_is_value (hr.mono (by decide)) (by rfl) (qa_cons (qe_ix hr.units (qv 0) qe_int (fun _ _ => rfl)) qa_nil))))))
theorem sc__is_page_told : FnScope ["answer", "_", "pairs", "following"] ["answer"] (defScope s__is_page_told) := ⟨rfl, rfl, rfl, by decide +kernel, rfl, by decide +kernel, by decide +kernel⟩
theorem ok__is_page_told {f : Addr} {fd : FuncData} (F : FnM K "_is_page_told" "_is_page_told" s__is_page_told f fd) (z_len : mg "len" = none) (c_MOST_PAGE : ∃ t, mg "MOST_PAGE" = some (.int 50 t)) (D_are_pairs : DefQ P w K mg base 4 "are_pairs" ["value"] f_are_pairs) (D_is_key : DefQ P w K mg base 1 "is_key" ["value"] f_is_key) (D_below : DefQ P w K mg base 1 "below" ["one", "other"] f_below) :
    FnOk P w K mg base (L2N.CX P w) 5 f fd ["answer"] (spF K f__is_page_told) := by
  rw [f__is_page_told_eq]
  exact fn_w F sc__is_page_told (by decide) fun cdv A outer s H E hr tk po pa => (qss_cons (qs_if (qt_cmp (opU_neq hr.units) (qe_b cb_len (by rfl) z_len (by decide +kernel) (qa_cons (qv 0) qa_nil)) qe_int (nomark _)) (qss_one (qs_ret qe_bl)) qss_nil)
      (qss_cons (qs_asg (qv 0) (qg_tup (by rfl) (qgs_cons (qg_name (i := 1) sc__is_page_told.nd rfl (Or.inl rfl)) (qgs_cons (qg_name (i := 2) sc__is_page_told.nd rfl (Or.inl rfl)) (qgs_cons (qg_name (i := 3) sc__is_page_told.nd rfl (Or.inl rfl)) qgs_nil)))))
      (qss_cons (qs_if (QW.qt (qw_or (qt_not (qt_val (qe_call tk.px D_are_pairs (hr.mono (by decide)) (by rfl) (qa_cons (qv 2) qa_nil)))) (qw_or1 (qt_cmp opU_gt (qe_b cb_len (by rfl) z_len (by decide +kernel) (qa_cons (qv 2) qa_nil)) (qe_gint (by rfl) c_MOST_PAGE) (nomark _))))) (qss_one (qs_ret qe_bl)) qss_nil)
      (qss_cons (qs_if (QW.qt (qw_and (qt_cmp opU_isnt (qv 3) qe_non (nomark _)) (qw_and1 (qt_not (qt_val (qe_call tk.px D_is_key (hr.mono (by decide)) (by rfl) (qa_cons (qv 3) qa_nil))))))) (qss_one (qs_ret qe_bl)) qss_nil)
      (qss_one (qs_ret (qe_or (qe_cmp (opU_equ hr.units) (qe_b cb_len (by rfl) z_len (by decide +kernel) (qa_cons (qv 2) qa_nil)) qe_int (nomark _)) (qe_one (qe_call tk.px D_below (hr.mono (by decide)) (by rfl) (qa_cons (qe_ix hr.units (qe_ix hr.units (qv 2) (qe_un unU_neg qe_int) (fun _ _ => rfl)) qe_int (fun _ _ => rfl)) (qa_cons (qv 3) qa_nil)))))))))))
theorem sc_is_answer : FnScope ["value", "kind", "check"] ["value"] (defScope s_is_answer) := ⟨rfl, rfl, rfl, by decide +kernel, rfl, by decide +kernel, by decide +kernel⟩
theorem ok_is_answer {f : Addr} {fd : FuncData} (F : FnM K "is_answer" "is_answer" s_is_answer f fd) (D_kind_of : DefQ P w K mg base 1 "kind_of" ["value"] f_kind_of) (t_ANSWERS : TabQ K w mg "ANSWERS" [("value", .fn "_is_value_told"), ("none", .fn "_is_word_alone"), ("done", .fn "_is_word_alone"), ("other", .fn "_is_value_told"), ("page", .fn "_is_page_told")]) (D__is_page_told : DefQ P w K mg base 5 "_is_page_told" ["answer"] f__is_page_told) (gd__is_page_told : mg "_is_page_told" = some (.ref (He.ga K "_is_page_told"))) (D__is_word_alone : DefQ P w K mg base 1 "_is_word_alone" ["answer"] f__is_word_alone) (gd__is_word_alone : mg "_is_word_alone" = some (.ref (He.ga K "_is_word_alone"))) (D__is_value_told : DefQ P w K mg base 3 "_is_value_told" ["answer"] f__is_value_told) (gd__is_value_told : mg "_is_value_told" = some (.ref (He.ga K "_is_value_told"))) :
    FnOk P w K mg base (L2N.CX P w) 6 f fd ["value"] (spF K f_is_answer) := by
  rw [f_is_answer_eq]
  exact fn_w F sc_is_answer (by decide) fun cdv A outer s H E hr tk po pa => (qss_cons (qs_set (i := 1) sc_is_answer.nd rfl (Or.inl rfl) (qe_call tk.px D_kind_of (hr.mono (by decide)) (by rfl) (qa_cons (qv 0) qa_nil)))
      (qss_cons (qs_if (qt_cmp (opU_tnin t_ANSWERS) (qv 1) (qe_tab t_ANSWERS (by rfl)) (by rfl)) (qss_one (qs_ret qe_bl)) qss_nil)
      (qss_cons (qs_set (i := 2) sc_is_answer.nd rfl (Or.inl rfl) (qe_tix t_ANSWERS (qe_tab t_ANSWERS (by rfl)) (qv 1) (fun _ _ => rfl)))
      (qss_one (qs_ret (qe_cl (k := 5) (i := 2) tk.px (defsC gd__is_value_told (D__is_value_told.mono (by decide)) (defsC gd__is_word_alone (D__is_word_alone.mono (by decide)) (defsC gd__is_page_told (D__is_page_told.mono (by decide)) defsN))) (hr.mono (by decide)) rfl (by first | exact Or.inl rfl | exact Or.inr (Or.inl rfl)) (qa_cons (qv 0) qa_nil)))))))
theorem sc_is_server : FnScope ["count", "value"] ["count", "value"] (defScope s_is_server) := ⟨rfl, rfl, rfl, by decide +kernel, rfl, by decide +kernel, by decide +kernel⟩
theorem ok_is_server {f : Addr} {fd : FuncData} (F : FnM K "is_server" "is_server" s_is_server f fd) (D_is_integer : DefQ P w K mg base 1 "is_integer" ["value", "least", "greatest"] f_is_integer) :
    FnOk P w K mg base (L2N.CX P w) 2 f fd ["count", "value"] (spF K f_is_server) := by
  rw [f_is_server_eq]
  exact fn_w F sc_is_server (by decide) fun cdv A outer s H E hr tk po pa => (qss_one (qs_ret (qe_call tk.px D_is_integer (hr.mono (by decide)) (by rfl) (qa_cons (qv 1) (qa_cons qe_int (qa_cons (qe_op opU_sub (qv 0) qe_int) qa_nil))))))
theorem sc_is_client : FnScope ["value"] ["value"] (defScope s_is_client) := ⟨rfl, rfl, rfl, by decide +kernel, rfl, by decide +kernel, by decide +kernel⟩
theorem ok_is_client {f : Addr} {fd : FuncData} (F : FnM K "is_client" "is_client" s_is_client f fd) (c_MOST_CLIENTS : ∃ t, mg "MOST_CLIENTS" = some (.int 100 t)) (D_is_integer : DefQ P w K mg base 1 "is_integer" ["value", "least", "greatest"] f_is_integer) :
    FnOk P w K mg base (L2N.CX P w) 2 f fd ["value"] (spF K f_is_client) := by
  rw [f_is_client_eq]
  exact fn_w F sc_is_client (by decide) fun cdv A outer s H E hr tk po pa => (qss_one (qs_ret (qe_call tk.px D_is_integer (hr.mono (by decide)) (by rfl) (qa_cons (qv 0) (qa_cons (qe_un unU_neg (qe_gint (by rfl) c_MOST_CLIENTS)) (qa_cons (qe_un unU_neg qe_int) qa_nil))))))
theorem sc_is_pairs : FnScope ["low", "high", "value", "key", "_"] ["low", "high", "value"] (defScope s_is_pairs) := ⟨rfl, rfl, rfl, by decide +kernel, rfl, by decide +kernel, by decide +kernel⟩
theorem ok_is_pairs {f : Addr} {fd : FuncData} (F : FnM K "is_pairs" "is_pairs" s_is_pairs f fd) (D_are_pairs : DefQ P w K mg base 4 "are_pairs" ["value"] f_are_pairs) (D_contains : DefQ P w K mg base 2 "contains" ["low", "high", "bound"] f_contains) :
    FnOk P w K mg base (L2N.CX P w) 5 f fd ["low", "high", "value"] (spF K f_is_pairs) := by
  rw [f_is_pairs_eq]
  exact fn_w F sc_is_pairs (by decide) fun cdv A outer s H E hr tk po pa => (qss_cons (qs_if (qt_not (qt_val (qe_call tk.px D_are_pairs (hr.mono (by decide)) (by rfl) (qa_cons (qv 2) qa_nil)))) (qss_one (qs_ret qe_bl)) qss_nil)
      (qss_cons (qs_for po (by rfl) (qi_seq (qv 2)) (qg_tup (by rfl) (qgs_cons (qg_name (i := 3) sc_is_pairs.nd rfl (Or.inl rfl)) (qgs_cons (qg_name (i := 4) sc_is_pairs.nd rfl (Or.inl rfl)) qgs_nil))) (qss_one (qs_if (qt_not (qt_val (qe_call tk.px D_contains (hr.mono (by decide)) (by rfl) (qa_cons (qv 0) (qa_cons (qv 1) (qa_cons (qv 3) qa_nil)))))) (qss_one (qs_ret qe_bl)) qss_nil)))
      (qss_one (qs_ret qe_bl))))
theorem sc_is_number : FnScope ["value"] ["value"] (defScope s_is_number) := ⟨rfl, rfl, rfl, by decide +kernel, rfl, by decide +kernel, by decide +kernel⟩
theorem ok_is_number {f : Addr} {fd : FuncData} (F : FnM K "is_number" "is_number" s_is_number f fd) (c_MOST_NUMBER : ∃ t, mg "MOST_NUMBER" = some (.int 1000000000000 t)) (D_is_integer : DefQ P w K mg base 1 "is_integer" ["value", "least", "greatest"] f_is_integer) :
    FnOk P w K mg base (L2N.CX P w) 2 f fd ["value"] (spF K f_is_number) := by
  rw [f_is_number_eq]
  exact fn_w F sc_is_number (by decide) fun cdv A outer s H E hr tk po pa => (qss_one (qs_ret (qe_call tk.px D_is_integer (hr.mono (by decide)) (by rfl) (qa_cons (qv 0) (qa_cons qe_int (qa_cons (qe_gint (by rfl) c_MOST_NUMBER) qa_nil))))))
theorem sc__is_row : FnScope ["value", "client", "number", "answer"] ["value"] (defScope s__is_row) := ⟨rfl, rfl, rfl, by decide +kernel, rfl, by decide +kernel, by decide +kernel⟩
theorem ok__is_row {f : Addr} {fd : FuncData} (F : FnM K "_is_row" "_is_row" s__is_row f fd) (z_len : mg "len" = none) (z_isinstance : mg "isinstance" = none) (z_tuple : mg "tuple" = none) (D_is_answer : DefQ P w K mg base 6 "is_answer" ["value"] f_is_answer) (D_is_number : DefQ P w K mg base 2 "is_number" ["value"] f_is_number) (D_is_client : DefQ P w K mg base 2 "is_client" ["value"] f_is_client) :
    FnOk P w K mg base (L2N.CX P w) 7 f fd ["value"] (spF K f__is_row) := by
  rw [f__is_row_eq]
  exact fn_w F sc__is_row (by decide) fun cdv A outer s H E hr tk po pa => (qss_cons (qs_if (QW.qt (qw_or (qt_not (qt_val (qe_isi .tup (by rfl) z_isinstance (by rfl) z_tuple (by decide +kernel) (qv 0)))) (qw_or1 (qt_cmp (opU_neq hr.units) (qe_b cb_len (by rfl) z_len (by decide +kernel) (qa_cons (qv 0) qa_nil)) qe_int (nomark _))))) (qss_one (qs_ret qe_bl)) qss_nil)
      (qss_cons (qs_asg (qv 0) (qg_tup (by rfl) (qgs_cons (qg_name (i := 1) sc__is_row.nd rfl (Or.inl rfl)) (qgs_cons (qg_name (i := 2) sc__is_row.nd rfl (Or.inl rfl)) (qgs_cons (qg_name (i := 3) sc__is_row.nd rfl (Or.inl rfl)) qgs_nil)))))
      (qss_one (qs_ret (qe_and (qe_call tk.px D_is_client (hr.mono (by decide)) (by rfl) (qa_cons (qv 1) qa_nil)) (qe_and (qe_call tk.px D_is_number (hr.mono (by decide)) (by rfl) (qa_cons (qv 2) qa_nil)) (qe_one (qe_call tk.px D_is_answer (hr.mono (by decide)) (by rfl) (qa_cons (qv 3) qa_nil)))))))))
theorem sc_is_rows : FnScope ["value", "last", "row"] ["value"] (defScope s_is_rows) := ⟨rfl, rfl, rfl, by decide +kernel, rfl, by decide +kernel, by decide +kernel⟩
theorem ok_is_rows {f : Addr} {fd : FuncData} (F : FnM K "is_rows" "is_rows" s_is_rows f fd) (z_isinstance : mg "isinstance" = none) (z_tuple : mg "tuple" = none) (D__is_row : DefQ P w K mg base 7 "_is_row" ["value"] f__is_row) :
    FnOk P w K mg base (L2N.CX P w) 8 f fd ["value"] (spF K f_is_rows) := by
  rw [f_is_rows_eq]
  exact fn_w F sc_is_rows (by decide) fun cdv A outer s H E hr tk po pa => (qss_cons (qs_if (qt_not (qt_val (qe_isi .tup (by rfl) z_isinstance (by rfl) z_tuple (by decide +kernel) (qv 0)))) (qss_one (qs_ret qe_bl)) qss_nil)
      (qss_cons (qs_set (i := 1) sc_is_rows.nd rfl (Or.inl rfl) qe_non)
      (qss_cons (qs_for po (by rfl) (qi_seq (qv 0)) (qg_name (i := 2) sc_is_rows.nd rfl (Or.inl rfl)) (qss_cons (qs_if (QW.qt (qw_or (qt_not (qt_val (qe_call tk.px D__is_row (hr.mono (by decide)) (by rfl) (qa_cons (qv 2) qa_nil)))) (qw_or1 (QW.qt (qw_and (qt_cmp opU_isnt (qv 1) qe_non (nomark _)) (qw_and1 (qt_cmp opU_le (qe_ix hr.units (qv 2) qe_int (fun _ _ => rfl)) (qv 1) (nomark _)))))))) (qss_one (qs_ret qe_bl)) qss_nil)
      (qss_one (qs_set (i := 1) sc_is_rows.nd rfl (Or.inl rfl) (qe_ix hr.units (qv 2) qe_int (fun _ _ => rfl))))))
      (qss_one (qs_ret qe_bl)))))
theorem sc__is_ask : FnScope ["count", "letter"] ["count", "letter"] (defScope s__is_ask) := ⟨rfl, rfl, rfl, by decide +kernel, rfl, by decide +kernel, by decide +kernel⟩
theorem ok__is_ask {f : Addr} {fd : FuncData} (F : FnM K "_is_ask" "_is_ask" s__is_ask f fd) (D_is_operation : DefQ P w K mg base 4 "is_operation" ["value"] f_is_operation) (D_is_number : DefQ P w K mg base 2 "is_number" ["value"] f_is_number) (z_len : mg "len" = none) :
    FnOk P w K mg base (L2N.CX P w) 5 f fd ["count", "letter"] (spF K f__is_ask) := by
  rw [f__is_ask_eq]
  exact fn_w F sc__is_ask (by decide) fun cdv A outer s H E hr tk po pa => (qss_one (qs_ret (qe_and (qe_cmp (opU_equ hr.units) (qe_b cb_len (by rfl) z_len (by decide +kernel) (qa_cons (qv 1) qa_nil)) qe_int (nomark _)) (qe_and (qe_call tk.px D_is_number (hr.mono (by decide)) (by rfl) (qa_cons (qe_ix hr.units (qv 1) qe_int (fun _ _ => rfl)) qa_nil)) (qe_one (qe_call tk.px D_is_operation (hr.mono (by decide)) (by rfl) (qa_cons (qe_ix hr.units (qv 1) qe_int (fun _ _ => rfl)) qa_nil)))))))
theorem sc__is_where : FnScope ["count", "letter"] ["count", "letter"] (defScope s__is_where) := ⟨rfl, rfl, rfl, by decide +kernel, rfl, by decide +kernel, by decide +kernel⟩
theorem ok__is_where {f : Addr} {fd : FuncData} (F : FnM K "_is_where" "_is_where" s__is_where f fd) (D_is_bound : DefQ P w K mg base 2 "is_bound" ["value"] f_is_bound) (z_len : mg "len" = none) :
    FnOk P w K mg base (L2N.CX P w) 3 f fd ["count", "letter"] (spF K f__is_where) := by
  rw [f__is_where_eq]
  exact fn_w F sc__is_where (by decide) fun cdv A outer s H E hr tk po pa => (qss_one (qs_ret (qe_and (qe_cmp (opU_equ hr.units) (qe_b cb_len (by rfl) z_len (by decide +kernel) (qa_cons (qv 1) qa_nil)) qe_int (nomark _)) (qe_one (qe_call tk.px D_is_bound (hr.mono (by decide)) (by rfl) (qa_cons (qe_ix hr.units (qv 1) qe_int (fun _ _ => rfl)) qa_nil))))))
theorem sc__is_told : FnScope ["count", "letter"] ["count", "letter"] (defScope s__is_told) := ⟨rfl, rfl, rfl, by decide +kernel, rfl, by decide +kernel, by decide +kernel⟩
theorem ok__is_told {f : Addr} {fd : FuncData} (F : FnM K "_is_told" "_is_told" s__is_told f fd) (D_is_answer : DefQ P w K mg base 6 "is_answer" ["value"] f_is_answer) (D_is_number : DefQ P w K mg base 2 "is_number" ["value"] f_is_number) (z_len : mg "len" = none) :
    FnOk P w K mg base (L2N.CX P w) 7 f fd ["count", "letter"] (spF K f__is_told) := by
  rw [f__is_told_eq]
  exact fn_w F sc__is_told (by decide) fun cdv A outer s H E hr tk po pa => (qss_one (qs_ret (qe_and (qe_cmp (opU_equ hr.units) (qe_b cb_len (by rfl) z_len (by decide +kernel) (qa_cons (qv 1) qa_nil)) qe_int (nomark _)) (qe_and (qe_call tk.px D_is_number (hr.mono (by decide)) (by rfl) (qa_cons (qe_ix hr.units (qv 1) qe_int (fun _ _ => rfl)) qa_nil)) (qe_one (qe_call tk.px D_is_answer (hr.mono (by decide)) (by rfl) (qa_cons (qe_ix hr.units (qv 1) qe_int (fun _ _ => rfl)) qa_nil)))))))
theorem sc__is_elsewhere : FnScope ["count", "letter"] ["count", "letter"] (defScope s__is_elsewhere) := ⟨rfl, rfl, rfl, by decide +kernel, rfl, by decide +kernel, by decide +kernel⟩
theorem ok__is_elsewhere {f : Addr} {fd : FuncData} (F : FnM K "_is_elsewhere" "_is_elsewhere" s__is_elsewhere f fd) (D_is_number : DefQ P w K mg base 2 "is_number" ["value"] f_is_number) (z_len : mg "len" = none) :
    FnOk P w K mg base (L2N.CX P w) 3 f fd ["count", "letter"] (spF K f__is_elsewhere) := by
  rw [f__is_elsewhere_eq]
  exact fn_w F sc__is_elsewhere (by decide) fun cdv A outer s H E hr tk po pa => (qss_one (qs_ret (qe_and (qe_cmp (opU_equ hr.units) (qe_b cb_len (by rfl) z_len (by decide +kernel) (qa_cons (qv 1) qa_nil)) qe_int (nomark _)) (qe_one (qe_call tk.px D_is_number (hr.mono (by decide)) (by rfl) (qa_cons (qe_ix hr.units (qv 1) qe_int (fun _ _ => rfl)) qa_nil))))))
theorem sc_names_shard : FnScope ["letter", "length"] ["letter", "length"] (defScope s_names_shard) := ⟨rfl, rfl, rfl, by decide +kernel, rfl, by decide +kernel, by decide +kernel⟩
theorem ok_names_shard {f : Addr} {fd : FuncData} (F : FnM K "names_shard" "names_shard" s_names_shard f fd) (D_is_number : DefQ P w K mg base 2 "is_number" ["value"] f_is_number) (D_is_range : DefQ P w K mg base 3 "is_range" ["low", "high"] f_is_range) (z_len : mg "len" = none) :
    FnOk P w K mg base (L2N.CX P w) 4 f fd ["letter", "length"] (spF K f_names_shard) := by
  rw [f_names_shard_eq]
  exact fn_w F sc_names_shard (by decide) fun cdv A outer s H E hr tk po pa => (qss_one (qs_ret (qe_and (qe_cmp (opU_equ hr.units) (qe_b cb_len (by rfl) z_len (by decide +kernel) (qa_cons (qv 0) qa_nil)) (qv 1) (nomark _)) (qe_and (qe_call tk.px D_is_range (hr.mono (by decide)) (by rfl) (qa_cons (qe_ix hr.units (qv 0) qe_int (fun _ _ => rfl)) (qa_cons (qe_ix hr.units (qv 0) qe_int (fun _ _ => rfl)) qa_nil))) (qe_one (qe_call tk.px D_is_number (hr.mono (by decide)) (by rfl) (qa_cons (qe_ix hr.units (qv 0) qe_int (fun _ _ => rfl)) qa_nil)))))))
theorem sc__names_server : FnScope ["count", "letter"] ["count", "letter"] (defScope s__names_server) := ⟨rfl, rfl, rfl, by decide +kernel, rfl, by decide +kernel, by decide +kernel⟩
theorem ok__names_server {f : Addr} {fd : FuncData} (F : FnM K "_names_server" "_names_server" s__names_server f fd) (D_is_server : DefQ P w K mg base 2 "is_server" ["count", "value"] f_is_server) (D_names_shard : DefQ P w K mg base 4 "names_shard" ["letter", "length"] f_names_shard) :
    FnOk P w K mg base (L2N.CX P w) 5 f fd ["count", "letter"] (spF K f__names_server) := by
  rw [f__names_server_eq]
  exact fn_w F sc__names_server (by decide) fun cdv A outer s H E hr tk po pa => (qss_one (qs_ret (qe_and (qe_call tk.px D_names_shard (hr.mono (by decide)) (by rfl) (qa_cons (qv 1) (qa_cons qe_int qa_nil))) (qe_one (qe_call tk.px D_is_server (hr.mono (by decide)) (by rfl) (qa_cons (qv 0) (qa_cons (qe_ix hr.units (qv 1) qe_int (fun _ _ => rfl)) qa_nil)))))))
theorem sc__is_split : FnScope ["count", "letter", "low", "high", "at"] ["count", "letter"] (defScope s__is_split) := ⟨rfl, rfl, rfl, by decide +kernel, rfl, by decide +kernel, by decide +kernel⟩
theorem ok__is_split {f : Addr} {fd : FuncData} (F : FnM K "_is_split" "_is_split" s__is_split f fd) (D_names_shard : DefQ P w K mg base 4 "names_shard" ["letter", "length"] f_names_shard) (D_below : DefQ P w K mg base 1 "below" ["one", "other"] f_below) (D_is_key : DefQ P w K mg base 1 "is_key" ["value"] f_is_key) :
    FnOk P w K mg base (L2N.CX P w) 5 f fd ["count", "letter"] (spF K f__is_split) := by
  rw [f__is_split_eq]
  exact fn_w F sc__is_split (by decide) fun cdv A outer s H E hr tk po pa => (qss_cons (qs_if (qt_not (qt_val (qe_call tk.px D_names_shard (hr.mono (by decide)) (by rfl) (qa_cons (qv 1) (qa_cons qe_int qa_nil))))) (qss_one (qs_ret qe_bl)) qss_nil)
      (qss_cons (qs_par3 (i := 2) (j := 3) (k := 4) (by rfl) sc__is_split.nd rfl rfl rfl (by decide) (by decide) (by decide) rfl rfl rfl (qa_cons (qe_ix hr.units (qv 1) qe_int (fun _ _ => rfl)) (qa_cons (qe_ix hr.units (qv 1) qe_int (fun _ _ => rfl)) (qa_cons (qe_ix hr.units (qv 1) qe_int (fun _ _ => rfl)) qa_nil))) (by rfl))
      (qss_one (qs_ret (qe_and (qe_call tk.px D_is_key (hr.mono (by decide)) (by rfl) (qa_cons (qv 4) qa_nil)) (qe_and (qe_cmp opU_lt (qv 2) (qv 4) (nomark _)) (qe_one (qe_call tk.px D_below (hr.mono (by decide)) (by rfl) (qa_cons (qv 4) (qa_cons (qv 3) qa_nil))))))))))
theorem sc__is_join : FnScope ["count", "letter", "_", "low", "middle", "epoch", "high", "other"] ["count", "letter"] (defScope s__is_join) := ⟨rfl, rfl, rfl, by decide +kernel, rfl, by decide +kernel, by decide +kernel⟩
theorem ok__is_join {f : Addr} {fd : FuncData} (F : FnM K "_is_join" "_is_join" s__is_join f fd) (z_len : mg "len" = none) (D_is_range : DefQ P w K mg base 3 "is_range" ["low", "high"] f_is_range) (D_is_number : DefQ P w K mg base 2 "is_number" ["value"] f_is_number) :
    FnOk P w K mg base (L2N.CX P w) 4 f fd ["count", "letter"] (spF K f__is_join) := by
  rw [f__is_join_eq]
  exact fn_w F sc__is_join (by decide) fun cdv A outer s H E hr tk po pa => (qss_cons (qs_if (qt_cmp (opU_neq hr.units) (qe_b cb_len (by rfl) z_len (by decide +kernel) (qa_cons (qv 1) qa_nil)) qe_int (nomark _)) (qss_one (qs_ret qe_bl)) qss_nil)
      (qss_cons (qs_asg (qv 1) (qg_tup (by rfl) (qgs_cons (qg_name (i := 2) sc__is_join.nd rfl (Or.inl rfl)) (qgs_cons (qg_name (i := 3) sc__is_join.nd rfl (Or.inl rfl)) (qgs_cons (qg_name (i := 4) sc__is_join.nd rfl (Or.inl rfl)) (qgs_cons (qg_name (i := 5) sc__is_join.nd rfl (Or.inl rfl)) (qgs_cons (qg_name (i := 6) sc__is_join.nd rfl (Or.inl rfl)) (qgs_cons (qg_name (i := 7) sc__is_join.nd rfl (Or.inl rfl)) qgs_nil))))))))
      (qss_cons (qs_if (QW.qt (qw_or (qt_not (qt_val (qe_call tk.px D_is_range (hr.mono (by decide)) (by rfl) (qa_cons (qv 3) (qa_cons (qv 4) qa_nil))))) (qw_or1 (qt_not (qt_val (qe_call tk.px D_is_range (hr.mono (by decide)) (by rfl) (qa_cons (qv 4) (qa_cons (qv 6) qa_nil)))))))) (qss_one (qs_ret qe_bl)) qss_nil)
      (qss_one (qs_ret (qe_and (qe_call tk.px D_is_number (hr.mono (by decide)) (by rfl) (qa_cons (qv 5) qa_nil)) (qe_one (qe_call tk.px D_is_number (hr.mono (by decide)) (by rfl) (qa_cons (qv 7) qa_nil)))))))))
theorem sc__is_have : FnScope ["count", "letter"] ["count", "letter"] (defScope s__is_have) := ⟨rfl, rfl, rfl, by decide +kernel, rfl, by decide +kernel, by decide +kernel⟩
theorem ok__is_have {f : Addr} {fd : FuncData} (F : FnM K "_is_have" "_is_have" s__is_have f fd) (D_is_bound : DefQ P w K mg base 2 "is_bound" ["value"] f_is_bound) (c_MOST_NUMBER : ∃ t, mg "MOST_NUMBER" = some (.int 1000000000000 t)) (D_is_integer : DefQ P w K mg base 1 "is_integer" ["value", "least", "greatest"] f_is_integer) (D_names_shard : DefQ P w K mg base 4 "names_shard" ["letter", "length"] f_names_shard) :
    FnOk P w K mg base (L2N.CX P w) 5 f fd ["count", "letter"] (spF K f__is_have) := by
  rw [f__is_have_eq]
  exact fn_w F sc__is_have (by decide) fun cdv A outer s H E hr tk po pa => (qss_one (qs_ret (qe_and (qe_call tk.px D_names_shard (hr.mono (by decide)) (by rfl) (qa_cons (qv 1) (qa_cons qe_int qa_nil))) (qe_and (qe_call tk.px D_is_integer (hr.mono (by decide)) (by rfl) (qa_cons (qe_ix hr.units (qv 1) qe_int (fun _ _ => rfl)) (qa_cons qe_int (qa_cons (qe_gint (by rfl) c_MOST_NUMBER) qa_nil)))) (qe_one (qe_call tk.px D_is_bound (hr.mono (by decide)) (by rfl) (qa_cons (qe_ix hr.units (qv 1) qe_int (fun _ _ => rfl)) qa_nil)))))))
theorem sc__is_content : FnScope ["count", "letter"] ["count", "letter"] (defScope s__is_content) := ⟨rfl, rfl, rfl, by decide +kernel, rfl, by decide +kernel, by decide +kernel⟩
theorem ok__is_content {f : Addr} {fd : FuncData} (F : FnM K "_is_content" "_is_content" s__is_content f fd) (D_names_shard : DefQ P w K mg base 4 "names_shard" ["letter", "length"] f_names_shard) (D_is_rows : DefQ P w K mg base 8 "is_rows" ["value"] f_is_rows) (D_is_pairs : DefQ P w K mg base 5 "is_pairs" ["low", "high", "value"] f_is_pairs) :
    FnOk P w K mg base (L2N.CX P w) 9 f fd ["count", "letter"] (spF K f__is_content) := by
  rw [f__is_content_eq]
  exact fn_w F sc__is_content (by decide) fun cdv A outer s H E hr tk po pa => (qss_cons (qs_if (qt_not (qt_val (qe_call tk.px D_names_shard (hr.mono (by decide)) (by rfl) (qa_cons (qv 1) (qa_cons qe_int qa_nil))))) (qss_one (qs_ret qe_bl)) qss_nil)
      (qss_one (qs_ret (qe_and (qe_call tk.px D_is_pairs (hr.mono (by decide)) (by rfl) (qa_cons (qe_ix hr.units (qv 1) qe_int (fun _ _ => rfl)) (qa_cons (qe_ix hr.units (qv 1) qe_int (fun _ _ => rfl)) (qa_cons (qe_ix hr.units (qv 1) qe_int (fun _ _ => rfl)) qa_nil)))) (qe_one (qe_call tk.px D_is_rows (hr.mono (by decide)) (by rfl) (qa_cons (qe_ix hr.units (qv 1) qe_int (fun _ _ => rfl)) qa_nil)))))))
theorem sc__is_receipt : FnScope ["count", "letter"] ["count", "letter"] (defScope s__is_receipt) := ⟨rfl, rfl, rfl, by decide +kernel, rfl, by decide +kernel, by decide +kernel⟩
theorem ok__is_receipt {f : Addr} {fd : FuncData} (F : FnM K "_is_receipt" "_is_receipt" s__is_receipt f fd) (D_names_shard : DefQ P w K mg base 4 "names_shard" ["letter", "length"] f_names_shard) :
    FnOk P w K mg base (L2N.CX P w) 5 f fd ["count", "letter"] (spF K f__is_receipt) := by
  rw [f__is_receipt_eq]
  exact fn_w F sc__is_receipt (by decide) fun cdv A outer s H E hr tk po pa => (qss_one (qs_ret (qe_call tk.px D_names_shard (hr.mono (by decide)) (by rfl) (qa_cons (qv 1) (qa_cons qe_int qa_nil)))))
theorem sc_is_letter : FnScope ["count", "value", "kind", "check"] ["count", "value"] (defScope s_is_letter) := ⟨rfl, rfl, rfl, by decide +kernel, rfl, by decide +kernel, by decide +kernel⟩
theorem ok_is_letter {f : Addr} {fd : FuncData} (F : FnM K "is_letter" "is_letter" s_is_letter f fd) (D_kind_of : DefQ P w K mg base 1 "kind_of" ["value"] f_kind_of) (t_FORMS : TabQ K w mg "FORMS" [("ask", .fn "_is_ask"), ("where", .fn "_is_where"), ("answer", .fn "_is_told"), ("elsewhere", .fn "_is_elsewhere"), ("there", .fn "_names_server"), ("move", .fn "_names_server"), ("split", .fn "_is_split"), ("join", .fn "_is_join"), ("have", .fn "_is_have"), ("content", .fn "_is_content"), ("receipt", .fn "_is_receipt")]) (D__is_receipt : DefQ P w K mg base 5 "_is_receipt" ["count", "letter"] f__is_receipt) (gd__is_receipt : mg "_is_receipt" = some (.ref (He.ga K "_is_receipt"))) (D__is_content : DefQ P w K mg base 9 "_is_content" ["count", "letter"] f__is_content) (gd__is_content : mg "_is_content" = some (.ref (He.ga K "_is_content"))) (D__is_have : DefQ P w K mg base 5 "_is_have" ["count", "letter"] f__is_have) (gd__is_have : mg "_is_have" = some (.ref (He.ga K "_is_have"))) (D__is_join : DefQ P w K mg base 4 "_is_join" ["count", "letter"] f__is_join) (gd__is_join : mg "_is_join" = some (.ref (He.ga K "_is_join"))) (D__is_split : DefQ P w K mg base 5 "_is_split" ["count", "letter"] f__is_split) (gd__is_split : mg "_is_split" = some (.ref (He.ga K "_is_split"))) (D__names_server : DefQ P w K mg base 5 "_names_server" ["count", "letter"] f__names_server) (gd__names_server : mg "_names_server" = some (.ref (He.ga K "_names_server"))) (D__is_elsewhere : DefQ P w K mg base 3 "_is_elsewhere" ["count", "letter"] f__is_elsewhere) (gd__is_elsewhere : mg "_is_elsewhere" = some (.ref (He.ga K "_is_elsewhere"))) (D__is_told : DefQ P w K mg base 7 "_is_told" ["count", "letter"] f__is_told) (gd__is_told : mg "_is_told" = some (.ref (He.ga K "_is_told"))) (D__is_where : DefQ P w K mg base 3 "_is_where" ["count", "letter"] f__is_where) (gd__is_where : mg "_is_where" = some (.ref (He.ga K "_is_where"))) (D__is_ask : DefQ P w K mg base 5 "_is_ask" ["count", "letter"] f__is_ask) (gd__is_ask : mg "_is_ask" = some (.ref (He.ga K "_is_ask"))) :
    FnOk P w K mg base (L2N.CX P w) 10 f fd ["count", "value"] (spF K f_is_letter) := by
  rw [f_is_letter_eq]
  exact fn_w F sc_is_letter (by decide) fun cdv A outer s H E hr tk po pa => (qss_cons (qs_set (i := 2) sc_is_letter.nd rfl (Or.inl rfl) (qe_call tk.px D_kind_of (hr.mono (by decide)) (by rfl) (qa_cons (qv 1) qa_nil)))
      (qss_cons (qs_if (qt_cmp (opU_tnin t_FORMS) (qv 2) (qe_tab t_FORMS (by rfl)) (by rfl)) (qss_one (qs_ret qe_bl)) qss_nil)
      (qss_cons (qs_set (i := 3) sc_is_letter.nd rfl (Or.inl rfl) (qe_tix t_FORMS (qe_tab t_FORMS (by rfl)) (qv 2) (fun _ _ => rfl)))
      (qss_one (qs_ret (qe_cl (k := 9) (i := 3) tk.px (defsC gd__is_ask (D__is_ask.mono (by decide)) (defsC gd__is_where (D__is_where.mono (by decide)) (defsC gd__is_told (D__is_told.mono (by decide)) (defsC gd__is_elsewhere (D__is_elsewhere.mono (by decide)) (defsC gd__names_server (D__names_server.mono (by decide)) (defsC gd__is_split (D__is_split.mono (by decide)) (defsC gd__is_join (D__is_join.mono (by decide)) (defsC gd__is_have (D__is_have.mono (by decide)) (defsC gd__is_content (D__is_content.mono (by decide)) (defsC gd__is_receipt (D__is_receipt.mono (by decide)) defsN)))))))))) (hr.mono (by decide)) rfl (by first | exact Or.inl rfl | exact Or.inr (Or.inl rfl)) (qa_cons (qv 0) (qa_cons (qv 1) qa_nil))))))))
theorem sc__is_party : FnScope ["count", "role", "value"] ["count", "role", "value"] (defScope s__is_party) := ⟨rfl, rfl, rfl, by decide +kernel, rfl, by decide +kernel, by decide +kernel⟩
theorem ok__is_party {f : Addr} {fd : FuncData} (F : FnM K "_is_party" "_is_party" s__is_party f fd) (D_is_client : DefQ P w K mg base 2 "is_client" ["value"] f_is_client) (D_is_server : DefQ P w K mg base 2 "is_server" ["count", "value"] f_is_server) (c_DIRECTORY : ∃ t, mg "DIRECTORY" = some (.int 1000 t)) (D_is_integer : DefQ P w K mg base 1 "is_integer" ["value", "least", "greatest"] f_is_integer) :
    FnOk P w K mg base (L2N.CX P w) 3 f fd ["count", "role", "value"] (spF K f__is_party) := by
  rw [f__is_party_eq]
  exact fn_w F sc__is_party (by decide) fun cdv A outer s H E hr tk po pa => (qss_cons (qs_if (qt_cmp (opU_equ hr.units) (qv 1) qe_str (nomark _)) (qss_one (qs_ret (qe_call tk.px D_is_client (hr.mono (by decide)) (by rfl) (qa_cons (qv 2) qa_nil)))) qss_nil)
      (qss_cons (qs_if (qt_cmp (opU_equ hr.units) (qv 1) qe_str (nomark _)) (qss_one (qs_ret (qe_call tk.px D_is_server (hr.mono (by decide)) (by rfl) (qa_cons (qv 0) (qa_cons (qv 2) qa_nil))))) qss_nil)
      (qss_one (qs_ret (qe_call tk.px D_is_integer (hr.mono (by decide)) (by rfl) (qa_cons (qv 2) (qa_cons (qe_gint (by rfl) c_DIRECTORY) (qa_cons (qe_gint (by rfl) c_DIRECTORY) qa_nil))))))))
theorem sc_check_letter : FnScope ["count", "sender", "receiver", "letter", "source", "target"] ["count", "sender", "receiver", "letter"] (defScope s_check_letter) := ⟨rfl, rfl, rfl, by decide +kernel, rfl, by decide +kernel, by decide +kernel⟩
theorem ok_check_letter {f : Addr} {fd : FuncData} (F : FnM K "check_letter" "check_letter" s_check_letter f fd) (D_is_letter : DefQ P w K mg base 10 "is_letter" ["count", "value"] f_is_letter) (x_BadLetter : ExcQ K mg "BadLetter") (t_ROUTES : TabQ K w mg "ROUTES" [("ask", .tup [.str "client", .str "server"]), ("where", .tup [.str "client", .str "directory"]), ("answer", .tup [.str "server", .str "client"]), ("elsewhere", .tup [.str "server", .str "client"]), ("there", .tup [.str "directory", .str "client"]), ("move", .tup [.str "directory", .str "server"]), ("split", .tup [.str "directory", .str "server"]), ("join", .tup [.str "directory", .str "server"]), ("have", .tup [.str "server", .str "directory"]), ("content", .tup [.str "server", .str "server"]), ("receipt", .tup [.str "server", .str "server"])]) (D__is_party : DefQ P w K mg base 3 "_is_party" ["count", "role", "value"] f__is_party) :
    FnOk P w K mg base (L2N.CX P w) 11 f fd ["count", "sender", "receiver", "letter"] (spF K f_check_letter) := by
  rw [f_check_letter_eq]
  exact fn_w F sc_check_letter (by decide) fun cdv A outer s H E hr tk po pa => (qss_cons (qs_if (qt_not (qt_val (qe_call tk.px D_is_letter (hr.mono (by decide)) (by rfl) (qa_cons (qv 0) (qa_cons (qv 3) qa_nil))))) (qss_one (qs_raise x_BadLetter (by rfl) tk (by rfl))) qss_nil)
      (qss_cons (qs_asg (qe_tix t_ROUTES (qe_tab t_ROUTES (by rfl)) (qe_ix hr.units (qv 3) qe_int (fun _ _ => rfl)) (fun _ _ => rfl)) (qg_tup (by rfl) (qgs_cons (qg_name (i := 4) sc_check_letter.nd rfl (Or.inl rfl)) (qgs_cons (qg_name (i := 5) sc_check_letter.nd rfl (Or.inl rfl)) qgs_nil))))
      (qss_cons (qs_if (QW.qt (qw_or (qt_not (qt_val (qe_call tk.px D__is_party (hr.mono (by decide)) (by rfl) (qa_cons (qv 0) (qa_cons (qv 4) (qa_cons (qv 1) qa_nil)))))) (qw_or1 (qt_not (qt_val (qe_call tk.px D__is_party (hr.mono (by decide)) (by rfl) (qa_cons (qv 0) (qa_cons (qv 5) (qa_cons (qv 2) qa_nil))))))))) (qss_one (qs_raise x_BadLetter (by rfl) tk (by rfl))) qss_nil)
      (qss_one (qs_ret (qv 3))))))
theorem sc__lesser : FnScope ["one", "other"] ["one", "other"] (defScope s__lesser) := ⟨rfl, rfl, rfl, by decide +kernel, rfl, by decide +kernel, by decide +kernel⟩
theorem ok__lesser {f : Addr} {fd : FuncData} (F : FnM K "_lesser" "_lesser" s__lesser f fd) (D_below : DefQ P w K mg base 1 "below" ["one", "other"] f_below) :
    FnOk P w K mg base (L2N.CX P w) 2 f fd ["one", "other"] (spF K f__lesser) := by
  rw [f__lesser_eq]
  exact fn_w F sc__lesser (by decide) fun cdv A outer s H E hr tk po pa => (qss_one (qs_ret (qe_if (qt_val (qe_call tk.px D_below (hr.mono (by decide)) (by rfl) (qa_cons (qv 0) (qa_cons (qv 1) qa_nil)))) (qv 0) (qv 1))))
theorem sc_apart : FnScope ["spans", "low", "high", "inside", "outside", "start", "end", "worth"] ["spans", "low", "high"] (defScope s_apart) := ⟨rfl, rfl, rfl, by decide +kernel, rfl, by decide +kernel, by decide +kernel⟩
theorem ok_apart {f : Addr} {fd : FuncData} (F : FnM K "apart" "apart" s_apart f fd) (D__lesser : DefQ P w K mg base 2 "_lesser" ["one", "other"] f__lesser) (D_overlap : DefQ P w K mg base 2 "overlap" ["low", "high", "other_low", "other_high"] f_overlap) (z_max : mg "max" = none) (D_below : DefQ P w K mg base 1 "below" ["one", "other"] f_below) :
    FnOk P w K mg base (L2N.CX P w) 3 f fd ["spans", "low", "high"] (spF K f_apart) := by
  rw [f_apart_eq]
  exact fn_w F sc_apart (by decide) fun cdv A outer s H E hr tk po pa => (qss_cons (qs_set (i := 3) sc_apart.nd rfl (Or.inl rfl) (qe_lR qa_nil))
      (qss_cons (qs_set (i := 4) sc_apart.nd rfl (Or.inl rfl) (qe_lR qa_nil))
      (qss_cons (qs_for po (by rfl) (qi_seq (qv 0)) (qg_tup (by rfl) (qgs_cons (qg_name (i := 5) sc_apart.nd rfl (Or.inl rfl)) (qgs_cons (qg_name (i := 6) sc_apart.nd rfl (Or.inl rfl)) (qgs_cons (qg_name (i := 7) sc_apart.nd rfl (Or.inl rfl)) qgs_nil)))) (qss_jn (qs_if (qt_cmp opU_lt (qv 5) (qv 1) (nomark _)) (qss_one (qs_expr (qe_bm tym_l PySem.F.plainAttrs_list PySem.F.slot_list_append PySem.F.type_list_append mU_app (qv 4) (qa_cons (qe_tup (qa_cons (qv 5) (qa_cons (qe_call tk.px D__lesser (hr.mono (by decide)) (by rfl) (qa_cons (qv 6) (qa_cons (qv 1) qa_nil))) (qa_cons (qv 7) qa_nil)))) qa_nil)))) qss_nil)
      (qss_jn (qs_if (qt_val (qe_call tk.px D_overlap (hr.mono (by decide)) (by rfl) (qa_cons (qv 5) (qa_cons (qv 6) (qa_cons (qv 1) (qa_cons (qv 2) qa_nil)))))) (qss_one (qs_expr (qe_bm tym_l PySem.F.plainAttrs_list PySem.F.slot_list_append PySem.F.type_list_append mU_app (qv 3) (qa_cons (qe_tup (qa_cons (qe_b (cb_max rfl) (by rfl) z_max (by decide +kernel) (qa_cons (qv 5) (qa_cons (qv 1) qa_nil))) (qa_cons (qe_call tk.px D__lesser (hr.mono (by decide)) (by rfl) (qa_cons (qv 6) (qa_cons (qv 2) qa_nil))) (qa_cons (qv 7) qa_nil)))) qa_nil)))) qss_nil)
      (qss_one (qs_if (qt_val (qe_call tk.px D_below (hr.mono (by decide)) (by rfl) (qa_cons (qv 2) (qa_cons (qv 6) qa_nil)))) (qss_one (qs_expr (qe_bm tym_l PySem.F.plainAttrs_list PySem.F.slot_list_append PySem.F.type_list_append mU_app (qv 4) (qa_cons (qe_tup (qa_cons (qe_b (cb_max rfl) (by rfl) z_max (by decide +kernel) (qa_cons (qv 5) (qa_cons (qv 2) qa_nil))) (qa_cons (qv 6) (qa_cons (qv 7) qa_nil)))) qa_nil)))) qss_nil)))))
      (qss_one (qs_ret (qe_tup (qa_cons (qv 3) (qa_cons (qv 4) qa_nil))))))))
theorem sc_filled : FnScope ["spans", "low", "high", "worth", "result", "at", "span"] ["spans", "low", "high", "worth"] (defScope s_filled) := ⟨rfl, rfl, rfl, by decide +kernel, rfl, by decide +kernel, by decide +kernel⟩
theorem ok_filled {f : Addr} {fd : FuncData} (F : FnM K "filled" "filled" s_filled f fd) (D_below : DefQ P w K mg base 1 "below" ["one", "other"] f_below) :
    FnOk P w K mg base (L2N.CX P w) 2 f fd ["spans", "low", "high", "worth"] (spF K f_filled) := by
  rw [f_filled_eq]
  exact fn_w F sc_filled (by decide) fun cdv A outer s H E hr tk po pa => (qss_cons (qs_set (i := 4) sc_filled.nd rfl (Or.inl rfl) (qe_lR qa_nil))
      (qss_cons (qs_set (i := 5) sc_filled.nd rfl (Or.inl rfl) (qv 1))
      (qss_cons (qs_for po (by rfl) (qi_seq (qv 0)) (qg_name (i := 6) sc_filled.nd rfl (Or.inl rfl)) (qss_jn (qs_if (qt_cmp opU_lt (qv 5) (qe_ix hr.units (qv 6) qe_int (fun _ _ => rfl)) (nomark _)) (qss_one (qs_expr (qe_bm tym_l PySem.F.plainAttrs_list PySem.F.slot_list_append PySem.F.type_list_append mU_app (qv 4) (qa_cons (qe_tup (qa_cons (qv 5) (qa_cons (qe_ix hr.units (qv 6) qe_int (fun _ _ => rfl)) (qa_cons (qv 3) qa_nil)))) qa_nil)))) qss_nil)
      (qss_cons (qs_expr (qe_bm tym_l PySem.F.plainAttrs_list PySem.F.slot_list_append PySem.F.type_list_append mU_app (qv 4) (qa_cons (qv 6) qa_nil)))
      (qss_one (qs_set (i := 5) sc_filled.nd rfl (Or.inl rfl) (qe_ix hr.units (qv 6) qe_int (fun _ _ => rfl)))))))
      (qss_jn (qs_if (qt_val (qe_call tk.px D_below (hr.mono (by decide)) (by rfl) (qa_cons (qv 5) (qa_cons (qv 2) qa_nil)))) (qss_one (qs_expr (qe_bm tym_l PySem.F.plainAttrs_list PySem.F.slot_list_append PySem.F.type_list_append mU_app (qv 4) (qa_cons (qe_tup (qa_cons (qv 5) (qa_cons (qv 2) (qa_cons (qv 3) qa_nil)))) qa_nil)))) qss_nil)
      (qss_one (qs_ret (qv 4)))))))
theorem sc_fused : FnScope ["spans", "result", "low", "high", "worth"] ["spans"] (defScope s_fused) := ⟨rfl, rfl, rfl, by decide +kernel, rfl, by decide +kernel, by decide +kernel⟩
theorem ok_fused {fd : FuncData} (F : FnM K "fused" "fused" s_fused (He.fAd K ("fused", none)) fd) (z_sorted : mg "sorted" = none) (T_fused : LamX.TabB base mg (He.cT K ("fused", none)).1 (He.cT K ("fused", none)).2) (z_len : mg "len" = none) :
    FnOk P w K mg base (L2N.CX P w) 1 (He.fAd K ("fused", none)) fd ["spans"] (spF K f_fused) := by
  rw [f_fused_eq]
  exact fn_wC F sc_fused (by decide) fun A outer s H E hr tk po pa => (qss_cons (qs_set (i := 1) sc_fused.nd rfl (Or.inl rfl) (qe_lR qa_nil))
      (qss_cons (qs_for po (by rfl) (qi_seq (qe_sortI T_fused rfl (by rfl) (srt_dp hr) (srt_un hr) (by rfl) z_sorted (qa_cons (qv 0) qa_nil))) (qg_tup (by rfl) (qgs_cons (qg_name (i := 2) sc_fused.nd rfl (Or.inl rfl)) (qgs_cons (qg_name (i := 3) sc_fused.nd rfl (Or.inl rfl)) (qgs_cons (qg_name (i := 4) sc_fused.nd rfl (Or.inl rfl)) qgs_nil)))) (qss_one (qs_if (QW.qt (qw_and (qt_cmp opU_gt (qe_b cb_len (by rfl) z_len (by decide +kernel) (qa_cons (qv 1) qa_nil)) qe_int (nomark _)) (qw_and (qt_cmp (opU_equ hr.units) (qe_ix hr.units (qe_ix hr.units (qv 1) (qe_un unU_neg qe_int) (fun _ _ => rfl)) qe_int (fun _ _ => rfl)) (qv 2) (nomark _)) (qw_and1 (qt_cmp (opU_equ hr.units) (qe_ix hr.units (qe_ix hr.units (qv 1) (qe_un unU_neg qe_int) (fun _ _ => rfl)) qe_int (fun _ _ => rfl)) (qv 4) (nomark _)))))) (qss_one (qs_put (hu_of hr) (qv 1) (qe_un unU_neg qe_int) (qe_tup (qa_cons (qe_ix hr.units (qe_ix hr.units (qv 1) (qe_un unU_neg qe_int) (fun _ _ => rfl)) qe_int (fun _ _ => rfl)) (qa_cons (qv 3) (qa_cons (qv 4) qa_nil)))))) (qss_one (qs_expr (qe_bm tym_l PySem.F.plainAttrs_list PySem.F.slot_list_append PySem.F.type_list_append mU_app (qv 1) (qa_cons (qe_tup (qa_cons (qv 2) (qa_cons (qv 3) (qa_cons (qv 4) qa_nil)))) qa_nil)))))))
      (qss_one (qs_ret (qv 1)))))
theorem sc_Routes___init__ : FnScope ["self"] ["self"] (defScope s_Routes___init__) := ⟨rfl, rfl, rfl, by decide +kernel, rfl, by decide +kernel, by decide +kernel⟩
theorem ok_Routes___init__ {f : Addr} {fd : FuncData} (F : FnM K "__init__" "Routes.__init__" s_Routes___init__ f fd) (l_Routes : Cls K (He.ga K "Routes")) (n_Routes__pieces : NoAttr K (He.ga K "Routes") "_pieces") :
    FnOk P w K mg base (L2N.CX P w) 1 f fd ["self"] (spF K f_Routes___init___2) := by
  rw [f_Routes___init___2_eq]
  exact fn_w F sc_Routes___init__ (by decide) fun cdv A outer s H E hr tk po pa => (qss_one (qs_fld (fld1 l_Routes n_Routes__pieces) (qv 0) (qe_lR qa_nil) rfl))
theorem sc__newer : FnScope ["old", "report"] ["old", "report"] (defScope s__newer) := ⟨rfl, rfl, rfl, by decide +kernel, rfl, by decide +kernel, by decide +kernel⟩
theorem ok__newer {f : Addr} {fd : FuncData} (F : FnM K "_newer" "_newer" s__newer f fd)  :
    FnOk P w K mg base (L2N.CX P w) 1 f fd ["old", "report"] (spF K f__newer) := by
  rw [f__newer_eq]
  exact fn_w F sc__newer (by decide) fun cdv A outer s H E hr tk po pa => (qss_one (qs_ret (qe_if (qt_cmp opU_ge (qe_ix hr.units (qv 1) qe_int (fun _ _ => rfl)) (qe_ix hr.units (qv 0) qe_int (fun _ _ => rfl)) (nomark _)) (qv 1) (qv 0))))
theorem sc_Routes_add : FnScope ["self", "report", "low", "high", "inside", "outside", "start", "end", "old"] ["self", "report"] (defScope s_Routes_add) := ⟨rfl, rfl, rfl, by decide +kernel, rfl, by decide +kernel, by decide +kernel⟩
theorem ok_Routes_add {f : Addr} {fd : FuncData} (F : FnM K "add" "Routes.add" s_Routes_add f fd) (l_Routes : Cls K (He.ga K "Routes")) (n_Routes__pieces : NoAttr K (He.ga K "Routes") "_pieces") (D_apart : DefQ P w K mg base 3 "apart" ["spans", "low", "high"] f_apart) (D_filled : DefQ P w K mg base 2 "filled" ["spans", "low", "high", "worth"] f_filled) (D__newer : DefQ P w K mg base 1 "_newer" ["old", "report"] f__newer) (D_fused : DefQ P w K mg base 1 "fused" ["spans"] f_fused) :
    FnOk P w K mg base (L2N.CX P w) 4 f fd ["self", "report"] (spF K f_Routes_add_2) := by
  rw [f_Routes_add_2_eq]
  exact fn_w F sc_Routes_add (by decide) fun cdv A outer s H E hr tk po pa => (qss_cons (qs_par (i := 2) (j := 3) (by rfl) sc_Routes_add.nd rfl rfl (by decide) rfl rfl (qa_cons (qe_ix hr.units (qv 1) qe_int (fun _ _ => rfl)) (qa_cons (qe_ix hr.units (qv 1) qe_int (fun _ _ => rfl)) qa_nil)) (by rfl))
      (qss_cons (qs_asg (qe_call tk.px D_apart (hr.mono (by decide)) (by rfl) (qa_cons (qe_fld (fld1 l_Routes n_Routes__pieces) (qv 0) rfl) (qa_cons (qv 2) (qa_cons (qv 3) qa_nil)))) (qg_tup (by rfl) (qgs_cons (qg_name (i := 4) sc_Routes_add.nd rfl (Or.inl rfl)) (qgs_cons (qg_name (i := 5) sc_Routes_add.nd rfl (Or.inl rfl)) qgs_nil))))
      (qss_one (qs_fld (fld1 l_Routes n_Routes__pieces) (qv 0) (qe_call tk.px D_fused (hr.mono (by decide)) (by rfl) (qa_cons (qe_op opU_add (qv 5) (qe_lcV (own := [("start", 6), ("end", 7), ("old", 8)]) (by rfl) sc_Routes_add.nd (qi_seq (qe_call tk.px D_filled (hr.mono (by decide)) (by rfl) (qa_cons (qv 4) (qa_cons (qv 2) (qa_cons (qv 3) (qa_cons (qv 1) qa_nil)))))) (blkOk_by (own := [("start", 6), ("end", 7), ("old", 8)]) (N := ["self", "report", "low", "high", "inside", "outside", "start", "end", "old"]) (sc := defScope s_Routes_add) (by decide +kernel)) (fun _ _ _ _ _ => qgv_tup (by rfl) (qgvs_cons (qgv_name (i := 6) sc_Routes_add.nd rfl (Or.inl rfl)) (qgvs_cons (qgv_name (i := 7) sc_Routes_add.nd rfl (Or.inl rfl)) (qgvs_cons (qgv_name (i := 8) sc_Routes_add.nd rfl (Or.inl rfl)) qgvs_nil)))) (fun _ _ _ _ _ => qts_nil) (fun _ _ _ _ _ => (qe_tup (qa_cons (qv 6) (qa_cons (qv 7) (qa_cons (qe_call px_no D__newer (hr.mono (by decide)) (by rfl) (qa_cons (qv 8) (qa_cons (qv 1) qa_nil))) qa_nil))))))) qa_nil)) rfl))))
theorem sc_Routes_pieces : FnScope ["self"] ["self"] (defScope s_Routes_pieces) := ⟨rfl, rfl, rfl, by decide +kernel, rfl, by decide +kernel, by decide +kernel⟩
theorem ok_Routes_pieces {f : Addr} {fd : FuncData} (F : FnM K "pieces" "Routes.pieces" s_Routes_pieces f fd) (z_list : mg "list" = none) (l_Routes : Cls K (He.ga K "Routes")) (n_Routes__pieces : NoAttr K (He.ga K "Routes") "_pieces") :
    FnOk P w K mg base (L2N.CX P w) 1 f fd ["self"] (spF K f_Routes_pieces_2) := by
  rw [f_Routes_pieces_2_eq]
  exact fn_w F sc_Routes_pieces (by decide) fun cdv A outer s H E hr tk po pa => (qss_one (qs_ret (qe_ty cb_lsR (by rfl) z_list (by decide +kernel) (qa_cons (qe_fld (fld1 l_Routes n_Routes__pieces) (qv 0) rfl) qa_nil))))
theorem sc_Routes_find : FnScope ["self", "place", "piece"] ["self", "place"] (defScope s_Routes_find) := ⟨rfl, rfl, rfl, by decide +kernel, rfl, by decide +kernel, by decide +kernel⟩
theorem ok_Routes_find {f : Addr} {fd : FuncData} (F : FnM K "find" "Routes.find" s_Routes_find f fd) (l_Routes : Cls K (He.ga K "Routes")) (n_Routes__pieces : NoAttr K (He.ga K "Routes") "_pieces") (D_contains : DefQ P w K mg base 2 "contains" ["low", "high", "bound"] f_contains) :
    FnOk P w K mg base (L2N.CX P w) 3 f fd ["self", "place"] (spF K f_Routes_find) := by
  rw [f_Routes_find_eq]
  exact fn_w F sc_Routes_find (by decide) fun cdv A outer s H E hr tk po pa => (qss_cons (qs_for po (by rfl) (qi_seq (qe_fld (fld1 l_Routes n_Routes__pieces) (qv 0) rfl)) (qg_name (i := 2) sc_Routes_find.nd rfl (Or.inl rfl)) (qss_one (qs_if (qt_val (qe_call tk.px D_contains (hr.mono (by decide)) (by rfl) (qa_cons (qe_ix hr.units (qv 2) qe_int (fun _ _ => rfl)) (qa_cons (qe_ix hr.units (qv 2) qe_int (fun _ _ => rfl)) (qa_cons (qv 1) qa_nil))))) (qss_one (qs_ret (qv 2))) qss_nil)))
      (qss_one (qs_ret qe_non)))
theorem sc_Routes_drop : FnScope ["self", "place", "piece"] ["self", "place"] (defScope s_Routes_drop) := ⟨rfl, rfl, rfl, by decide +kernel, rfl, by decide +kernel, by decide +kernel⟩
theorem ok_Routes_drop {f : Addr} {fd : FuncData} (F : FnM K "drop" "Routes.drop" s_Routes_drop f fd) (l_Routes : Cls K (He.ga K "Routes")) (n_Routes__pieces : NoAttr K (He.ga K "Routes") "_pieces") (D_contains : DefQ P w K mg base 2 "contains" ["low", "high", "bound"] f_contains) :
    FnOk P w K mg base (L2N.CX P w) 3 f fd ["self", "place"] (spF K f_Routes_drop_2) := by
  rw [f_Routes_drop_2_eq]
  exact fn_w F sc_Routes_drop (by decide) fun cdv A outer s H E hr tk po pa => (qss_one (qs_fld (fld1 l_Routes n_Routes__pieces) (qv 0) (qe_lcR (own := [("piece", 2)]) (by rfl) sc_Routes_drop.nd (qi_seq (qe_fld (fld1 l_Routes n_Routes__pieces) (qv 0) rfl)) (blkOk_by (own := [("piece", 2)]) (N := ["self", "place", "piece"]) (sc := defScope s_Routes_drop) (by decide +kernel)) (fun _ _ _ _ _ => qgv_name (i := 2) sc_Routes_drop.nd rfl (Or.inl rfl)) (fun _ _ _ _ _ => qts_one (qt_not (qt_val (qe_call px_no D_contains (hr.mono (by decide)) (by rfl) (qa_cons (qe_ix hr.units (qv 2) qe_int (fun _ _ => rfl)) (qa_cons (qe_ix hr.units (qv 2) qe_int (fun _ _ => rfl)) (qa_cons (qv 1) qa_nil))))))) (fun _ _ _ _ _ => (qv 2))) rfl))
theorem sc_Client___init__ : FnScope ["self", "name", "count"] ["self", "name", "count"] (defScope s_Client___init__) := ⟨rfl, rfl, rfl, by decide +kernel, rfl, by decide +kernel, by decide +kernel⟩
theorem ok_Client___init__ {f : Addr} {fd : FuncData} (F : FnM K "__init__" "Client.__init__" s_Client___init__ f fd) (c_MOST_SERVERS : ∃ t, mg "MOST_SERVERS" = some (.int 20 t)) (D_is_integer : DefQ P w K mg base 1 "is_integer" ["value", "least", "greatest"] f_is_integer) (D_is_client : DefQ P w K mg base 2 "is_client" ["value"] f_is_client) (x_BadServer : ExcQ K mg "BadServer") (l_Client : Cls K (He.ga K "Client")) (n_Client__name : NoAttr K (He.ga K "Client") "_name") (n_Client__count : NoAttr K (He.ga K "Client") "_count") (K_Routes : MakQ P w K mg base 1 "Routes" ["self"] f_Routes___init___2) (n_Client__routes : NoAttr K (He.ga K "Client") "_routes") (n_Client__ops : NoAttr K (He.ga K "Client") "_ops") (n_Client__accepted : NoAttr K (He.ga K "Client") "_accepted") :
    FnOk P w K mg base (L2N.CX P w) 3 f fd ["self", "name", "count"] (spF K f_Client___init___2) := by
  rw [f_Client___init___2_eq]
  exact fn_w F sc_Client___init__ (by decide) fun cdv A outer s H E hr tk po pa => (qss_cons (qs_if (QW.qt (qw_or (qt_not (qt_val (qe_call tk.px D_is_client (hr.mono (by decide)) (by rfl) (qa_cons (qv 1) qa_nil)))) (qw_or1 (qt_not (qt_val (qe_call tk.px D_is_integer (hr.mono (by decide)) (by rfl) (qa_cons (qv 2) (qa_cons qe_int (qa_cons (qe_gint (by rfl) c_MOST_SERVERS) qa_nil))))))))) (qss_one (qs_raise x_BadServer (by rfl) tk (by rfl))) qss_nil)
      (qss_cons (qs_fld (fld1 l_Client n_Client__name) (qv 0) (qv 1) rfl)
      (qss_cons (qs_fld (fld1 l_Client n_Client__count) (qv 0) (qv 2) rfl)
      (qss_cons (qs_fld (fld1 l_Client n_Client__routes) (qv 0) (qe_mak0 tk.px K_Routes (hr.mono (by decide)) (by rfl)) rfl)
      (qss_cons (qs_fld (fld1 l_Client n_Client__ops) (qv 0) (qe_lR qa_nil) rfl)
      (qss_one (qs_fld (fld1 l_Client n_Client__accepted) (qv 0) (qe_lR qa_nil) rfl)))))))
theorem sc_Client_pending : FnScope ["self", "done"] ["self"] (defScope s_Client_pending) := ⟨rfl, rfl, rfl, by decide +kernel, rfl, by decide +kernel, by decide +kernel⟩
theorem ok_Client_pending {f : Addr} {fd : FuncData} (F : FnM K "pending" "Client.pending" s_Client_pending f fd) (z_len : mg "len" = none) (l_Client : Cls K (He.ga K "Client")) (n_Client__accepted : NoAttr K (He.ga K "Client") "_accepted") (n_Client__ops : NoAttr K (He.ga K "Client") "_ops") :
    FnOk P w K mg base (L2N.CX P w) 1 f fd ["self"] (spF K f_Client_pending) := by
  rw [f_Client_pending_eq]
  exact fn_w F sc_Client_pending (by decide) fun cdv A outer s H E hr tk po pa => (qss_cons (qs_set (i := 1) sc_Client_pending.nd rfl (Or.inl rfl) (qe_b cb_len (by rfl) z_len (by decide +kernel) (qa_cons (qe_fld (fld1 l_Client n_Client__accepted) (qv 0) rfl) qa_nil)))
      (qss_cons (qs_if (qt_cmp (opU_equ hr.units) (qv 1) (qe_b cb_len (by rfl) z_len (by decide +kernel) (qa_cons (qe_fld (fld1 l_Client n_Client__ops) (qv 0) rfl) qa_nil)) (nomark _)) (qss_one (qs_ret qe_non)) qss_nil)
      (qss_one (qs_ret (qe_tup (qa_cons (qe_op opU_add (qv 1) qe_int) (qa_cons (qe_ix hr.units (qe_fld (fld1 l_Client n_Client__ops) (qv 0) rfl) (qv 1) (fun _ _ => rfl)) qa_nil)))))))
theorem sc_Client__send : FnScope ["self", "request", "piece", "number", "op"] ["self"] (defScope s_Client__send) := ⟨rfl, rfl, rfl, by decide +kernel, rfl, by decide +kernel, by decide +kernel⟩
theorem ok_Client__send {f : Addr} {fd : FuncData} (F : FnM K "_send" "Client._send" s_Client__send f fd) (M_Client_pending : MetQ P w K mg base 1 "Client" "pending" ["self"] f_Client_pending) (D_place : DefQ P w K mg base 5 "place" ["op"] f_place) (l_Client : Cls K (He.ga K "Client")) (n_Client__routes : NoAttr K (He.ga K "Client") "_routes") (M_Routes_find : MetQ P w K mg base 3 "Routes" "find" ["self", "place"] f_Routes_find) (c_DIRECTORY : ∃ t, mg "DIRECTORY" = some (.int 1000 t)) :
    FnOk P w K mg base (L2N.CX P w) 6 f fd ["self"] (spF K f_Client__send) := by
  rw [f_Client__send_eq]
  exact fn_w F sc_Client__send (by decide) fun cdv A outer s H E hr tk po pa => (qss_cons (qs_set (i := 1) sc_Client__send.nd rfl (Or.inl rfl) (qe_met0 tk.px (mets1 M_Client_pending) (hr.mono (by decide)) (qv 0)))
      (qss_cons (qs_if (qt_cmp opU_is (qv 1) qe_non (nomark _)) (qss_one (qs_ret (qe_lV qa_nil))) qss_nil)
      (qss_cons (qs_asg (qv 1) (qg_tup (by rfl) (qgs_cons (qg_name (i := 3) sc_Client__send.nd rfl (Or.inl rfl)) (qgs_cons (qg_name (i := 4) sc_Client__send.nd rfl (Or.inl rfl)) qgs_nil))))
      (qss_cons (qs_set (i := 2) sc_Client__send.nd rfl (Or.inl rfl) (qe_met tk.px (mets1 M_Routes_find) (hr.mono (by decide)) (qe_fld (fld1 l_Client n_Client__routes) (qv 0) rfl) (qa_cons (qe_call tk.px D_place (hr.mono (by decide)) (by rfl) (qa_cons (qv 4) qa_nil)) qa_nil)))
      (qss_cons (qs_if (qt_cmp opU_is (qv 2) qe_non (nomark _)) (qss_one (qs_ret (qe_lV (qa_cons (qe_tup (qa_cons (qe_gint (by rfl) c_DIRECTORY) (qa_cons (qe_tup (qa_cons qe_str (qa_cons (qe_call tk.px D_place (hr.mono (by decide)) (by rfl) (qa_cons (qv 4) qa_nil)) qa_nil))) qa_nil))) qa_nil)))) qss_nil)
      (qss_one (qs_ret (qe_lV (qa_cons (qe_tup (qa_cons (qe_ix hr.units (qe_ix hr.units (qv 2) qe_int (fun _ _ => rfl)) qe_int (fun _ _ => rfl)) (qa_cons (qe_tup (qa_cons qe_str (qa_cons (qv 3) (qa_cons (qv 4) qa_nil)))) qa_nil))) qa_nil)))))))))
theorem sc_Client_submit : FnScope ["self", "op", "waits"] ["self", "op"] (defScope s_Client_submit) := ⟨rfl, rfl, rfl, by decide +kernel, rfl, by decide +kernel, by decide +kernel⟩
theorem ok_Client_submit {f : Addr} {fd : FuncData} (F : FnM K "submit" "Client.submit" s_Client_submit f fd) (D_is_operation : DefQ P w K mg base 4 "is_operation" ["value"] f_is_operation) (x_BadOperation : ExcQ K mg "BadOperation") (M_Client_pending : MetQ P w K mg base 1 "Client" "pending" ["self"] f_Client_pending) (l_Client : Cls K (He.ga K "Client")) (n_Client__ops : NoAttr K (He.ga K "Client") "_ops") (M_Client__send : MetQ P w K mg base 6 "Client" "_send" ["self"] f_Client__send) :
    FnOk P w K mg base (L2N.CX P w) 7 f fd ["self", "op"] (spF K f_Client_submit) := by
  rw [f_Client_submit_eq]
  exact fn_w F sc_Client_submit (by decide) fun cdv A outer s H E hr tk po pa => (qss_cons (qs_if (qt_not (qt_val (qe_call tk.px D_is_operation (hr.mono (by decide)) (by rfl) (qa_cons (qv 1) qa_nil)))) (qss_one (qs_raise x_BadOperation (by rfl) tk (by rfl))) qss_nil)
      (qss_cons (qs_set (i := 2) sc_Client_submit.nd rfl (Or.inl rfl) (qe_cmp opU_isnt (qe_met0 tk.px (mets1 M_Client_pending) (hr.mono (by decide)) (qv 0)) qe_non (nomark _)))
      (qss_cons (qs_expr (qe_bm tym_l PySem.F.plainAttrs_list PySem.F.slot_list_append PySem.F.type_list_append mU_app (qe_fld (fld1 l_Client n_Client__ops) (qv 0) rfl) (qa_cons (qv 1) qa_nil)))
      (qss_one (qs_ret (qe_if (qt_val (qv 2)) (qe_lV qa_nil) (qe_met0 tk.px (mets1 M_Client__send) (hr.mono (by decide)) (qv 0))))))))
theorem sc_Client_tick : FnScope ["self"] ["self"] (defScope s_Client_tick) := ⟨rfl, rfl, rfl, by decide +kernel, rfl, by decide +kernel, by decide +kernel⟩
theorem ok_Client_tick {f : Addr} {fd : FuncData} (F : FnM K "tick" "Client.tick" s_Client_tick f fd) (M_Client__send : MetQ P w K mg base 6 "Client" "_send" ["self"] f_Client__send) :
    FnOk P w K mg base (L2N.CX P w) 7 f fd ["self"] (spF K f_Client_tick_2) := by
  rw [f_Client_tick_2_eq]
  exact fn_w F sc_Client_tick (by decide) fun cdv A outer s H E hr tk po pa => (qss_one (qs_ret (qe_met0 tk.px (mets1 M_Client__send) (hr.mono (by decide)) (qv 0))))
theorem sc_Client__learn : FnScope ["self", "letter", "request", "_", "low", "high", "epoch", "server"] ["self", "letter"] (defScope s_Client__learn) := ⟨rfl, rfl, rfl, by decide +kernel, rfl, by decide +kernel, by decide +kernel⟩
theorem ok_Client__learn {f : Addr} {fd : FuncData} (F : FnM K "_learn" "Client._learn" s_Client__learn f fd) (l_Client : Cls K (He.ga K "Client")) (n_Client__routes : NoAttr K (He.ga K "Client") "_routes") (M_Routes_add : MetQ P w K mg base 4 "Routes" "add" ["self", "report"] f_Routes_add_2) (M_Client_pending : MetQ P w K mg base 1 "Client" "pending" ["self"] f_Client_pending) (D_place : DefQ P w K mg base 5 "place" ["op"] f_place) (D_contains : DefQ P w K mg base 2 "contains" ["low", "high", "bound"] f_contains) (M_Client__send : MetQ P w K mg base 6 "Client" "_send" ["self"] f_Client__send) :
    FnOk P w K mg base (L2N.CX P w) 7 f fd ["self", "letter"] (spF K f_Client__learn_2) := by
  rw [f_Client__learn_2_eq]
  exact fn_w F sc_Client__learn (by decide) fun cdv A outer s H E hr tk po pa => (qss_cons (qs_asg (qv 1) (qg_tup (by rfl) (qgs_cons (qg_name (i := 3) sc_Client__learn.nd rfl (Or.inl rfl)) (qgs_cons (qg_name (i := 4) sc_Client__learn.nd rfl (Or.inl rfl)) (qgs_cons (qg_name (i := 5) sc_Client__learn.nd rfl (Or.inl rfl)) (qgs_cons (qg_name (i := 6) sc_Client__learn.nd rfl (Or.inl rfl)) (qgs_cons (qg_name (i := 7) sc_Client__learn.nd rfl (Or.inl rfl)) qgs_nil)))))))
      (qss_cons (qs_expr (qe_met tk.px (mets1 M_Routes_add) (hr.mono (by decide)) (qe_fld (fld1 l_Client n_Client__routes) (qv 0) rfl) (qa_cons (qe_tup (qa_cons (qv 4) (qa_cons (qv 5) (qa_cons (qv 6) (qa_cons (qv 7) (qa_cons qe_int (qa_cons qe_str qa_nil))))))) qa_nil)))
      (qss_cons (qs_set (i := 2) sc_Client__learn.nd rfl (Or.inl rfl) (qe_met0 tk.px (mets1 M_Client_pending) (hr.mono (by decide)) (qv 0)))
      (qss_cons (qs_if (QW.qt (qw_or (qt_cmp opU_is (qv 2) qe_non (nomark _)) (qw_or1 (qt_not (qt_val (qe_call tk.px D_contains (hr.mono (by decide)) (by rfl) (qa_cons (qv 4) (qa_cons (qv 5) (qa_cons (qe_call tk.px D_place (hr.mono (by decide)) (by rfl) (qa_cons (qe_ix hr.units (qv 2) qe_int (fun _ _ => rfl)) qa_nil)) qa_nil))))))))) (qss_one (qs_ret (qe_lV qa_nil))) qss_nil)
      (qss_one (qs_ret (qe_met0 tk.px (mets1 M_Client__send) (hr.mono (by decide)) (qv 0))))))))
theorem sc_Client__is_pending : FnScope ["self", "number", "request"] ["self", "number"] (defScope s_Client__is_pending) := ⟨rfl, rfl, rfl, by decide +kernel, rfl, by decide +kernel, by decide +kernel⟩
theorem ok_Client__is_pending {f : Addr} {fd : FuncData} (F : FnM K "_is_pending" "Client._is_pending" s_Client__is_pending f fd) (M_Client_pending : MetQ P w K mg base 1 "Client" "pending" ["self"] f_Client_pending) :
    FnOk P w K mg base (L2N.CX P w) 2 f fd ["self", "number"] (spF K f_Client__is_pending_2) := by
  rw [f_Client__is_pending_2_eq]
  exact fn_w F sc_Client__is_pending (by decide) fun cdv A outer s H E hr tk po pa => (qss_cons (qs_set (i := 2) sc_Client__is_pending.nd rfl (Or.inl rfl) (qe_met0 tk.px (mets1 M_Client_pending) (hr.mono (by decide)) (qv 0)))
      (qss_one (qs_ret (qe_and (qe_cmp opU_isnt (qv 2) qe_non (nomark _)) (qe_one (qe_cmp (opU_equ hr.units) (qe_ix hr.units (qv 2) qe_int (fun _ _ => rfl)) (qv 1) (nomark _)))))))
theorem sc_Client__forget : FnScope ["self", "sender", "letter", "spot", "piece"] ["self", "sender", "letter"] (defScope s_Client__forget) := ⟨rfl, rfl, rfl, by decide +kernel, rfl, by decide +kernel, by decide +kernel⟩
theorem ok_Client__forget {f : Addr} {fd : FuncData} (F : FnM K "_forget" "Client._forget" s_Client__forget f fd) (M_Client__is_pending : MetQ P w K mg base 2 "Client" "_is_pending" ["self", "number"] f_Client__is_pending_2) (M_Client_pending : MetQ P w K mg base 1 "Client" "pending" ["self"] f_Client_pending) (D_place : DefQ P w K mg base 5 "place" ["op"] f_place) (l_Client : Cls K (He.ga K "Client")) (n_Client__routes : NoAttr K (He.ga K "Client") "_routes") (M_Routes_find : MetQ P w K mg base 3 "Routes" "find" ["self", "place"] f_Routes_find) (M_Routes_drop : MetQ P w K mg base 3 "Routes" "drop" ["self", "place"] f_Routes_drop_2) :
    FnOk P w K mg base (L2N.CX P w) 6 f fd ["self", "sender", "letter"] (spF K f_Client__forget_2) := by
  rw [f_Client__forget_2_eq]
  exact fn_w F sc_Client__forget (by decide) fun cdv A outer s H E hr tk po pa => (qss_jn (qs_if (qt_val (qe_met tk.px (mets1 M_Client__is_pending) (hr.mono (by decide)) (qv 0) (qa_cons (qe_ix hr.units (qv 2) qe_int (fun _ _ => rfl)) qa_nil))) (qss_cons (qs_set (i := 3) sc_Client__forget.nd rfl (Or.inl rfl) (qe_call tk.px D_place (hr.mono (by decide)) (by rfl) (qa_cons (qe_ix hr.units (qe_met0 tk.px (mets1 M_Client_pending) (hr.mono (by decide)) (qv 0)) qe_int (fun _ _ => rfl)) qa_nil)))
      (qss_cons (qs_set (i := 4) sc_Client__forget.nd rfl (Or.inl rfl) (qe_met tk.px (mets1 M_Routes_find) (hr.mono (by decide)) (qe_fld (fld1 l_Client n_Client__routes) (qv 0) rfl) (qa_cons (qv 3) qa_nil)))
      (qss_one (qs_if (QW.qt (qw_and (qt_cmp opU_isnt (qv 4) qe_non (nomark _)) (qw_and1 (qt_cmp (opU_equ hr.units) (qe_ix hr.units (qe_ix hr.units (qv 4) qe_int (fun _ _ => rfl)) qe_int (fun _ _ => rfl)) (qv 1) (nomark _))))) (qss_one (qs_expr (qe_met tk.px (mets1 M_Routes_drop) (hr.mono (by decide)) (qe_fld (fld1 l_Client n_Client__routes) (qv 0) rfl) (qa_cons (qv 3) qa_nil)))) qss_nil)))) qss_nil)
      (qss_one (qs_ret (qe_lV qa_nil))))
theorem sc_Client__accept : FnScope ["self", "letter", "_", "number", "answer"] ["self", "letter"] (defScope s_Client__accept) := ⟨rfl, rfl, rfl, by decide +kernel, rfl, by decide +kernel, by decide +kernel⟩
theorem ok_Client__accept {f : Addr} {fd : FuncData} (F : FnM K "_accept" "Client._accept" s_Client__accept f fd) (M_Client__is_pending : MetQ P w K mg base 2 "Client" "_is_pending" ["self", "number"] f_Client__is_pending_2) (M_Client_pending : MetQ P w K mg base 1 "Client" "pending" ["self"] f_Client_pending) (l_Client : Cls K (He.ga K "Client")) (n_Client__accepted : NoAttr K (He.ga K "Client") "_accepted") (M_Client__send : MetQ P w K mg base 6 "Client" "_send" ["self"] f_Client__send) :
    FnOk P w K mg base (L2N.CX P w) 7 f fd ["self", "letter"] (spF K f_Client__accept_2) := by
  rw [f_Client__accept_2_eq]
  exact fn_w F sc_Client__accept (by decide) fun cdv A outer s H E hr tk po pa => (qss_cons (qs_asg (qv 1) (qg_tup (by rfl) (qgs_cons (qg_name (i := 2) sc_Client__accept.nd rfl (Or.inl rfl)) (qgs_cons (qg_name (i := 3) sc_Client__accept.nd rfl (Or.inl rfl)) (qgs_cons (qg_name (i := 4) sc_Client__accept.nd rfl (Or.inl rfl)) qgs_nil)))))
      (qss_cons (qs_if (qt_not (qt_val (qe_met tk.px (mets1 M_Client__is_pending) (hr.mono (by decide)) (qv 0) (qa_cons (qv 3) qa_nil)))) (qss_one (qs_ret (qe_lV qa_nil))) qss_nil)
      (qss_cons (qs_expr (qe_bm tym_l PySem.F.plainAttrs_list PySem.F.slot_list_append PySem.F.type_list_append mU_app (qe_fld (fld1 l_Client n_Client__accepted) (qv 0) rfl) (qa_cons (qe_op opU_add (qe_met0 tk.px (mets1 M_Client_pending) (hr.mono (by decide)) (qv 0)) (qe_tup (qa_cons (qv 4) qa_nil))) qa_nil)))
      (qss_one (qs_ret (qe_met0 tk.px (mets1 M_Client__send) (hr.mono (by decide)) (qv 0)))))))
theorem sc_Client_receive : FnScope ["self", "sender", "letter"] ["self", "sender", "letter"] (defScope s_Client_receive) := ⟨rfl, rfl, rfl, by decide +kernel, rfl, by decide +kernel, by decide +kernel⟩
theorem ok_Client_receive {f : Addr} {fd : FuncData} (F : FnM K "receive" "Client.receive" s_Client_receive f fd) (l_Client : Cls K (He.ga K "Client")) (n_Client__name : NoAttr K (He.ga K "Client") "_name") (n_Client__count : NoAttr K (He.ga K "Client") "_count") (D_check_letter : DefQ P w K mg base 11 "check_letter" ["count", "sender", "receiver", "letter"] f_check_letter) (x_BadLetter : ExcQ K mg "BadLetter") (em_BadLetter : ExmQ K ["TableError", "BadOperation", "BadLetter", "BadServer"] (.ref (He.ga K "BadLetter")) ["BadLetter"]) (M_Client__learn : MetQ P w K mg base 7 "Client" "_learn" ["self", "letter"] f_Client__learn_2) (M_Client__forget : MetQ P w K mg base 6 "Client" "_forget" ["self", "sender", "letter"] f_Client__forget_2) (M_Client__accept : MetQ P w K mg base 7 "Client" "_accept" ["self", "letter"] f_Client__accept_2) :
    FnOk P w K mg base (L2N.CX P w) 12 f fd ["self", "sender", "letter"] (spF K f_Client_receive_2) := by
  rw [f_Client_receive_2_eq]
  exact fn_w F sc_Client_receive (by decide) fun cdv A outer s H E hr tk po pa => (qss_jn (qs_try rfl rfl tk (fun W pn xe tk po => (qss_one (qs_expr (qe_call tk.px D_check_letter (hr.mono (by decide)) (by rfl) (qa_cons (qe_fld (fld1 l_Client n_Client__count) (qv 0) rfl) (qa_cons (qv 1) (qa_cons (qe_fld (fld1 l_Client n_Client__name) (qv 0) rfl) (qa_cons (qv 2) qa_nil)))))))) (qhd_cons ⟨rfl, by decide, .inl x_BadLetter.gC⟩ em_BadLetter (fun a oe d pn _ => (qss_one (qs_ret (qe_lV qa_nil)))) qhd_nil))
      (qss_cons (qs_if (qt_cmp (opU_equ hr.units) (qe_ix hr.units (qv 2) qe_int (fun _ _ => rfl)) qe_str (nomark _)) (qss_one (qs_ret (qe_met tk.px (mets1 M_Client__learn) (hr.mono (by decide)) (qv 0) (qa_cons (qv 2) qa_nil)))) qss_nil)
      (qss_cons (qs_if (qt_cmp (opU_equ hr.units) (qe_ix hr.units (qv 2) qe_int (fun _ _ => rfl)) qe_str (nomark _)) (qss_one (qs_ret (qe_met tk.px (mets1 M_Client__forget) (hr.mono (by decide)) (qv 0) (qa_cons (qv 1) (qa_cons (qv 2) qa_nil))))) qss_nil)
      (qss_one (qs_ret (qe_met tk.px (mets1 M_Client__accept) (hr.mono (by decide)) (qv 0) (qa_cons (qv 2) qa_nil)))))))
theorem sc_Client_accepted : FnScope ["self"] ["self"] (defScope s_Client_accepted) := ⟨rfl, rfl, rfl, by decide +kernel, rfl, by decide +kernel, by decide +kernel⟩
theorem ok_Client_accepted {f : Addr} {fd : FuncData} (F : FnM K "accepted" "Client.accepted" s_Client_accepted f fd) (z_list : mg "list" = none) (l_Client : Cls K (He.ga K "Client")) (n_Client__accepted : NoAttr K (He.ga K "Client") "_accepted") :
    FnOk P w K mg base (L2N.CX P w) 1 f fd ["self"] (spF K f_Client_accepted_2) := by
  rw [f_Client_accepted_2_eq]
  exact fn_w F sc_Client_accepted (by decide) fun cdv A outer s H E hr tk po pa => (qss_one (qs_ret (qe_ty cb_lsR (by rfl) z_list (by decide +kernel) (qa_cons (qe_fld (fld1 l_Client n_Client__accepted) (qv 0) rfl) qa_nil))))
theorem sc_Client_pieces : FnScope ["self"] ["self"] (defScope s_Client_pieces) := ⟨rfl, rfl, rfl, by decide +kernel, rfl, by decide +kernel, by decide +kernel⟩
theorem ok_Client_pieces {f : Addr} {fd : FuncData} (F : FnM K "pieces" "Client.pieces" s_Client_pieces f fd) (l_Client : Cls K (He.ga K "Client")) (n_Client__routes : NoAttr K (He.ga K "Client") "_routes") (M_Routes_pieces : MetQ P w K mg base 1 "Routes" "pieces" ["self"] f_Routes_pieces_2) :
    FnOk P w K mg base (L2N.CX P w) 2 f fd ["self"] (spF K f_Client_pieces_2) := by
  rw [f_Client_pieces_2_eq]
  exact fn_w F sc_Client_pieces (by decide) fun cdv A outer s H E hr tk po pa => (qss_one (qs_ret (qe_met0 tk.px (mets1 M_Routes_pieces) (hr.mono (by decide)) (qe_fld (fld1 l_Client n_Client__routes) (qv 0) rfl))))
theorem sc__law_cell : FnScope ["script", "k"] ["script", "k"] (defScope s__law_cell) := ⟨rfl, rfl, rfl, by decide +kernel, rfl, by decide +kernel, by decide +kernel⟩
theorem ok__law_cell {f : Addr} {fd : FuncData} (F : FnM K "_law_cell" "_law_cell" s__law_cell f fd) (z_len : mg "len" = none) (z_int : mg "int" = none) :
    FnOk P w K mg base (L2N.CX P w) 1 f fd ["script", "k"] (spF K f__law_cell_2) := by
  rw [f__law_cell_2_eq]
  exact fn_w F sc__law_cell (by decide) fun cdv A outer s H E hr tk po pa => (qss_cons (qs_if (qt_cmp opU_lt (qv 1) (qe_b cb_len (by rfl) z_len (by decide +kernel) (qa_cons (qv 0) qa_nil)) (nomark _)) (qss_one (qs_ret (qe_ty cb_int (by rfl) z_int (by decide +kernel) (qa_cons (qe_ix hr.units (qv 0) (qv 1) (fun _ _ => rfl)) qa_nil)))) qss_nil)
      (qss_one (qs_ret qe_int)))
theorem sc__law_rich : FnScope ["cell", "k", "mixed"] ["cell", "k"] (defScope s__law_rich) := ⟨rfl, rfl, rfl, by decide +kernel, rfl, by decide +kernel, by decide +kernel⟩
theorem ok__law_rich {f : Addr} {fd : FuncData} (F : FnM K "_law_rich" "_law_rich" s__law_rich f fd) (z_int : mg "int" = none) :
    FnOk P w K mg base (L2N.CX P w) 1 f fd ["cell", "k"] (spF K f__law_rich) := by
  rw [f__law_rich_eq]
  exact fn_w F sc__law_rich (by decide) fun cdv A outer s H E hr tk po pa => (qss_cons (qs_if (qt_cmp opU_ge (qv 0) (qe_op opU_pow qe_int qe_int) (nomark _)) (qss_one (qs_ret (qe_ty cb_int (by rfl) z_int (by decide +kernel) (qa_cons (qv 0) qa_nil)))) qss_nil)
      (qss_cons (qs_set (i := 2) sc__law_rich.nd rfl (Or.inl rfl) (qe_op opU_mod (qe_ty cb_int (by rfl) z_int (by decide +kernel) (qa_cons (qe_op opU_add (qe_op opU_add (qe_op opU_mul (qv 0) qe_int) (qe_op opU_mul (qv 1) qe_int)) qe_int) qa_nil)) qe_int))
      (qss_one (qs_ret (qe_op opU_add (qe_op opU_mul (qv 2) qe_int) (qe_op opU_mod (qe_ty cb_int (by rfl) z_int (by decide +kernel) (qa_cons (qe_op opU_add (qe_op opU_mul (qv 2) qe_int) (qv 0)) qa_nil)) qe_int))))))
theorem sc__law_word : FnScope ["size", "chars", "seed", "word", "rest", "k"] ["size", "chars", "seed"] (defScope s__law_word) := ⟨rfl, rfl, rfl, by decide +kernel, rfl, by decide +kernel, by decide +kernel⟩
theorem ok__law_word {f : Addr} {fd : FuncData} (F : FnM K "_law_word" "_law_word" s__law_word f fd) (z_int : mg "int" = none) (z_range : mg "range" = none) (z_len : mg "len" = none) :
    FnOk P w K mg base (L2N.CX P w) 1 f fd ["size", "chars", "seed"] (spF K f__law_word) := by
  rw [f__law_word_eq]
  exact fn_w F sc__law_word (by decide) fun cdv A outer s H E hr tk po pa => (qss_cons (qs_set (i := 3) sc__law_word.nd rfl (Or.inl rfl) qe_str)
      (qss_cons (qs_set (i := 4) sc__law_word.nd rfl (Or.inl rfl) (qe_ty cb_int (by rfl) z_int (by decide +kernel) (qa_cons (qv 2) qa_nil)))
      (qss_cons (qs_for po (by rfl) (qi_range1 (by rfl) z_range (qa_cons (qv 0) qa_nil)) (qg_name (i := 5) sc__law_word.nd rfl (Or.inl rfl)) (qss_cons (qs_set (i := 3) sc__law_word.nd rfl (Or.inl rfl) (qe_op opU_add (qv 3) (qe_ix hr.units (qv 1) (qe_op opU_mod (qe_ty cb_int (by rfl) z_int (by decide +kernel) (qa_cons (qv 4) qa_nil)) (qe_b cb_len (by rfl) z_len (by decide +kernel) (qa_cons (qv 1) qa_nil))) (fun _ _ => rfl))))
      (qss_one (qs_set (i := 4) sc__law_word.nd rfl (Or.inl rfl) (qe_op opU_fdv (qv 4) (qe_b cb_len (by rfl) z_len (by decide +kernel) (qa_cons (qv 1) qa_nil)))))))
      (qss_one (qs_ret (qv 3))))))
theorem sc__law_key : FnScope ["rich"] ["rich"] (defScope s__law_key) := ⟨rfl, rfl, rfl, by decide +kernel, rfl, by decide +kernel, by decide +kernel⟩
theorem ok__law_key {f : Addr} {fd : FuncData} (F : FnM K "_law_key" "_law_key" s__law_key f fd) (z_int : mg "int" = none) (D__law_word : DefQ P w K mg base 1 "_law_word" ["size", "chars", "seed"] f__law_word) :
    FnOk P w K mg base (L2N.CX P w) 2 f fd ["rich"] (spF K f__law_key) := by
  rw [f__law_key_eq]
  exact fn_w F sc__law_key (by decide) fun cdv A outer s H E hr tk po pa => (qss_cons (qs_if (qt_cmp opU_lt (qe_op opU_mod (qe_ty cb_int (by rfl) z_int (by decide +kernel) (qa_cons (qv 0) qa_nil)) qe_int) qe_int (nomark _)) (qss_one (qs_ret (qe_ix hr.units (qe_lV (qa_cons qe_str (qa_cons qe_str (qa_cons qe_str (qa_cons qe_str (qa_cons qe_str (qa_cons qe_str (qa_cons qe_str (qa_cons qe_str qa_nil))))))))) (qe_op opU_mod (qe_op opU_fdv (qv 0) qe_int) qe_int) (fun _ _ => rfl)))) qss_nil)
      (qss_one (qs_ret (qe_call tk.px D__law_word (hr.mono (by decide)) (by rfl) (qa_cons (qe_op opU_add qe_int (qe_op opU_mod (qe_op opU_fdv (qv 0) qe_int) qe_int)) (qa_cons qe_str (qa_cons (qe_op opU_fdv (qv 0) qe_int) qa_nil)))))))
theorem sc__law_bound : FnScope ["rich"] ["rich"] (defScope s__law_bound) := ⟨rfl, rfl, rfl, by decide +kernel, rfl, by decide +kernel, by decide +kernel⟩
theorem ok__law_bound {f : Addr} {fd : FuncData} (F : FnM K "_law_bound" "_law_bound" s__law_bound f fd) (z_int : mg "int" = none) (D__law_key : DefQ P w K mg base 2 "_law_key" ["rich"] f__law_key) :
    FnOk P w K mg base (L2N.CX P w) 3 f fd ["rich"] (spF K f__law_bound) := by
  rw [f__law_bound_eq]
  exact fn_w F sc__law_bound (by decide) fun cdv A outer s H E hr tk po pa => (qss_cons (qs_if (qt_cmp (opU_equ hr.units) (qe_op opU_mod (qe_ty cb_int (by rfl) z_int (by decide +kernel) (qa_cons (qv 0) qa_nil)) qe_int) qe_int (nomark _)) (qss_one (qs_ret qe_str)) qss_nil)
      (qss_one (qs_ret (qe_call tk.px D__law_key (hr.mono (by decide)) (by rfl) (qa_cons (qe_op opU_fdv (qv 0) qe_int) qa_nil)))))
theorem sc__law_value : FnScope ["rich", "chars"] ["rich"] (defScope s__law_value) := ⟨rfl, rfl, rfl, by decide +kernel, rfl, by decide +kernel, by decide +kernel⟩
theorem ok__law_value {f : Addr} {fd : FuncData} (F : FnM K "_law_value" "_law_value" s__law_value f fd) (z_int : mg "int" = none) (D__law_word : DefQ P w K mg base 1 "_law_word" ["size", "chars", "seed"] f__law_word) :
    FnOk P w K mg base (L2N.CX P w) 2 f fd ["rich"] (spF K f__law_value) := by
  rw [f__law_value_eq]
  exact fn_w F sc__law_value (by decide) fun cdv A outer s H E hr tk po pa => (qss_cons (qs_if (qt_cmp opU_lt (qe_op opU_mod (qe_ty cb_int (by rfl) z_int (by decide +kernel) (qa_cons (qv 0) qa_nil)) qe_int) qe_int (nomark _)) (qss_one (qs_ret (qe_ix hr.units (qe_lV (qa_cons qe_str (qa_cons qe_str (qa_cons qe_str qa_nil)))) (qe_op opU_mod (qe_op opU_fdv (qv 0) qe_int) qe_int) (fun _ _ => rfl)))) qss_nil)
      (qss_cons (qs_set (i := 1) sc__law_value.nd rfl (Or.inl rfl) qe_str)
      (qss_one (qs_ret (qe_call tk.px D__law_word (hr.mono (by decide)) (by rfl) (qa_cons (qe_op opU_mod (qe_op opU_fdv (qv 0) qe_int) qe_int) (qa_cons (qv 1) (qa_cons (qe_op opU_fdv (qv 0) qe_int) qa_nil))))))))
theorem sc__law_operation : FnScope ["rich", "kind", "rest", "key", "limit"] ["rich"] (defScope s__law_operation) := ⟨rfl, rfl, rfl, by decide +kernel, rfl, by decide +kernel, by decide +kernel⟩
theorem ok__law_operation {f : Addr} {fd : FuncData} (F : FnM K "_law_operation" "_law_operation" s__law_operation f fd) (D__law_bound : DefQ P w K mg base 3 "_law_bound" ["rich"] f__law_bound) (D__law_key : DefQ P w K mg base 2 "_law_key" ["rich"] f__law_key) (D__law_value : DefQ P w K mg base 2 "_law_value" ["rich"] f__law_value) :
    FnOk P w K mg base (L2N.CX P w) 4 f fd ["rich"] (spF K f__law_operation) := by
  rw [f__law_operation_eq]
  exact fn_w F sc__law_operation (by decide) fun cdv A outer s H E hr tk po pa => (qss_cons (qs_set (i := 1) sc__law_operation.nd rfl (Or.inl rfl) (qe_ix hr.units (qe_lV (qa_cons qe_str (qa_cons qe_str (qa_cons qe_str (qa_cons qe_str (qa_cons qe_str (qa_cons qe_str qa_nil))))))) (qe_op opU_mod (qv 0) qe_int) (fun _ _ => rfl)))
      (qss_cons (qs_set (i := 2) sc__law_operation.nd rfl (Or.inl rfl) (qe_op opU_fdv (qv 0) qe_int))
      (qss_cons (qs_if (qt_cmp (opU_equ hr.units) (qv 1) qe_str (nomark _)) (qss_cons (qs_set (i := 4) sc__law_operation.nd rfl (Or.inl rfl) (qe_op opU_add qe_int (qe_op opU_mod (qe_op opU_fdv (qv 2) qe_int) qe_int)))
      (qss_jn (qs_if (qt_cmp (opU_equ hr.units) (qe_op opU_mod (qe_op opU_fdv (qv 2) qe_int) qe_int) qe_int (nomark _)) (qss_one (qs_set (i := 4) sc__law_operation.nd rfl (Or.inl rfl) (qe_op opU_add qe_int (qe_op opU_mod (qe_op opU_fdv (qv 2) qe_int) qe_int)))) qss_nil)
      (qss_one (qs_ret (qe_tup (qa_cons (qv 1) (qa_cons (qe_call tk.px D__law_bound (hr.mono (by decide)) (by rfl) (qa_cons (qv 2) qa_nil)) (qa_cons (qv 4) qa_nil)))))))) qss_nil)
      (qss_cons (qs_set (i := 3) sc__law_operation.nd rfl (Or.inl rfl) (qe_call tk.px D__law_key (hr.mono (by decide)) (by rfl) (qa_cons (qv 2) qa_nil)))
      (qss_cons (qs_if (qt_cmp (opU_equ hr.units) (qv 1) qe_str (nomark _)) (qss_one (qs_ret (qe_tup (qa_cons (qv 1) (qa_cons (qv 3) (qa_cons (qe_call tk.px D__law_value (hr.mono (by decide)) (by rfl) (qa_cons (qe_op opU_fdv (qv 2) qe_int) qa_nil)) qa_nil)))))) qss_nil)
      (qss_cons (qs_if (qt_cmp (opU_equ hr.units) (qv 1) qe_str (nomark _)) (qss_one (qs_ret (qe_tup (qa_cons (qv 1) (qa_cons (qv 3) (qa_cons (qe_call tk.px D__law_value (hr.mono (by decide)) (by rfl) (qa_cons (qe_op opU_fdv (qv 2) qe_int) qa_nil)) (qa_cons (qe_call tk.px D__law_value (hr.mono (by decide)) (by rfl) (qa_cons (qe_op opU_fdv (qv 2) qe_int) qa_nil)) qa_nil))))))) qss_nil)
      (qss_one (qs_ret (qe_tup (qa_cons (qv 1) (qa_cons (qv 3) qa_nil)))))))))))
theorem sc__law_part : FnScope ["place_v", "part", "cut"] ["place_v"] (defScope s__law_part) := ⟨rfl, rfl, rfl, by decide +kernel, rfl, by decide +kernel, by decide +kernel⟩
theorem ok__law_part {f : Addr} {fd : FuncData} (F : FnM K "_law_part" "_law_part" s__law_part f fd)  :
    FnOk P w K mg base (L2N.CX P w) 1 f fd ["place_v"] (spF K f__law_part) := by
  rw [f__law_part_eq]
  exact fn_w F sc__law_part (by decide) fun cdv A outer s H E hr tk po pa => (qss_cons (qs_set (i := 1) sc__law_part.nd rfl (Or.inl rfl) qe_int)
      (qss_cons (qs_for po (by rfl) (qi_seq (qe_lV (qa_cons qe_str (qa_cons qe_str (qa_cons qe_str qa_nil))))) (qg_name (i := 2) sc__law_part.nd rfl (Or.inl rfl)) (qss_one (qs_if (qt_cmp opU_ge (qv 0) (qv 2) (nomark _)) (qss_one (qs_set (i := 1) sc__law_part.nd rfl (Or.inl rfl) (qe_op opU_add (qv 1) qe_int))) qss_nil)))
      (qss_one (qs_ret (qv 1)))))
theorem sc__law_letters : FnScope ["model", "number", "op", "route"] ["model"] (defScope s__law_letters) := ⟨rfl, rfl, rfl, by decide +kernel, rfl, by decide +kernel, by decide +kernel⟩
theorem ok__law_letters {f : Addr} {fd : FuncData} (F : FnM K "_law_letters" "_law_letters" s__law_letters f fd) (z_len : mg "len" = none) (D__law_part : DefQ P w K mg base 1 "_law_part" ["place_v"] f__law_part) :
    FnOk P w K mg base (L2N.CX P w) 2 f fd ["model"] (spF K f__law_letters) := by
  rw [f__law_letters_eq]
  exact fn_w F sc__law_letters (by decide) fun cdv A outer s H E hr tk po pa => (qss_cons (qs_set (i := 1) sc__law_letters.nd rfl (Or.inl rfl) (qe_op opU_add (qe_b cb_len (by rfl) z_len (by decide +kernel) (qa_cons (qe_ix hr.units (qv 0) qe_str (fun _ _ => rfl)) qa_nil)) qe_int))
      (qss_cons (qs_if (qt_cmp opU_gt (qv 1) (qe_b cb_len (by rfl) z_len (by decide +kernel) (qa_cons (qe_ix hr.units (qv 0) qe_str (fun _ _ => rfl)) qa_nil)) (nomark _)) (qss_one (qs_ret (qe_lV qa_nil))) qss_nil)
      (qss_cons (qs_set (i := 2) sc__law_letters.nd rfl (Or.inl rfl) (qe_ix hr.units (qe_ix hr.units (qv 0) qe_str (fun _ _ => rfl)) (qe_op opU_sub (qv 1) qe_int) (fun _ _ => rfl)))
      (qss_cons (qs_set (i := 3) sc__law_letters.nd rfl (Or.inl rfl) (qe_ix hr.units (qe_ix hr.units (qv 0) qe_str (fun _ _ => rfl)) (qe_call tk.px D__law_part (hr.mono (by decide)) (by rfl) (qa_cons (qe_ix hr.units (qv 2) qe_int (fun _ _ => rfl)) qa_nil)) (fun _ _ => rfl)))
      (qss_cons (qs_if (qt_cmp opU_is (qv 3) qe_non (nomark _)) (qss_one (qs_ret (qe_lV (qa_cons (qe_tup (qa_cons qe_int (qa_cons (qe_tup (qa_cons qe_str (qa_cons (qe_ix hr.units (qv 2) qe_int (fun _ _ => rfl)) qa_nil))) qa_nil))) qa_nil)))) qss_nil)
      (qss_one (qs_ret (qe_lV (qa_cons (qe_tup (qa_cons (qe_ix hr.units (qv 3) qe_int (fun _ _ => rfl)) (qa_cons (qe_tup (qa_cons qe_str (qa_cons (qv 1) (qa_cons (qv 2) qa_nil)))) qa_nil))) qa_nil)))))))))
theorem sc__law_there : FnScope ["model", "rich", "k", "cuts", "first", "last", "epoch", "server", "routes", "part", "letter", "number"] ["model", "rich", "k"] (defScope s__law_there) := ⟨rfl, rfl, rfl, by decide +kernel, rfl, by decide +kernel, by decide +kernel⟩
theorem ok__law_there {f : Addr} {fd : FuncData} (F : FnM K "_law_there" "_law_there" s__law_there f fd) (z_range : mg "range" = none) (z_len : mg "len" = none) (D__law_part : DefQ P w K mg base 1 "_law_part" ["place_v"] f__law_part) (D__law_letters : DefQ P w K mg base 2 "_law_letters" ["model"] f__law_letters) :
    FnOk P w K mg base (L2N.CX P w) 3 f fd ["model", "rich", "k"] (spF K f__law_there) := by
  rw [f__law_there_eq]
  exact fn_w F sc__law_there (by decide) fun cdv A outer s H E hr tk po pa => (qss_cons (qs_set (i := 3) sc__law_there.nd rfl (Or.inl rfl) (qe_lV (qa_cons qe_str (qa_cons qe_str (qa_cons qe_str (qa_cons qe_str (qa_cons qe_non qa_nil)))))))
      (qss_cons (qs_set (i := 4) sc__law_there.nd rfl (Or.inl rfl) (qe_op opU_mod (qv 1) qe_int))
      (qss_cons (qs_set (i := 5) sc__law_there.nd rfl (Or.inl rfl) (qe_op opU_add (qe_op opU_add (qv 4) qe_int) (qe_op opU_mod (qe_op opU_fdv (qv 1) qe_int) (qe_op opU_sub qe_int (qv 4)))))
      (qss_cons (qs_set (i := 6) sc__law_there.nd rfl (Or.inl rfl) (qe_op opU_add qe_int (qe_op opU_mod (qe_op opU_fdv (qv 1) qe_int) qe_int)))
      (qss_cons (qs_set (i := 7) sc__law_there.nd rfl (Or.inl rfl) (qe_op opU_mod (qe_op opU_fdv (qv 1) qe_int) (qe_ix hr.units (qv 0) qe_str (fun _ _ => rfl))))
      (qss_cons (qs_set (i := 8) sc__law_there.nd rfl (Or.inl rfl) (qe_ix hr.units (qv 0) qe_str (fun _ _ => rfl)))
      (qss_cons (qs_for po (by rfl) (qi_range2 (by rfl) z_range (qa_cons (qv 4) (qa_cons (qv 5) qa_nil))) (qg_name (i := 9) sc__law_there.nd rfl (Or.inl rfl)) (qss_one (qs_if (QW.qt (qw_or (qt_cmp opU_is (qe_ix hr.units (qv 8) (qv 9) (fun _ _ => rfl)) qe_non (nomark _)) (qw_or1 (qt_cmp opU_le (qe_ix hr.units (qe_ix hr.units (qv 8) (qv 9) (fun _ _ => rfl)) qe_int (fun _ _ => rfl)) (qv 6) (nomark _))))) (qss_one (qs_put (hu_of hr) (qv 8) (qv 9) (qe_tup (qa_cons (qv 6) (qa_cons (qv 7) (qa_cons (qv 2) (qa_cons (qe_tup (qa_cons (qe_ix hr.units (qv 3) (qv 4) (fun _ _ => rfl)) (qa_cons (qe_ix hr.units (qv 3) (qv 5) (fun _ _ => rfl)) (qa_cons (qv 6) (qa_cons (qv 7) (qa_cons qe_int (qa_cons qe_str qa_nil))))))) qa_nil))))))) qss_nil)))
      (qss_cons (qs_set (i := 10) sc__law_there.nd rfl (Or.inl rfl) (qe_tup (qa_cons qe_str (qa_cons (qe_ix hr.units (qv 3) (qv 4) (fun _ _ => rfl)) (qa_cons (qe_ix hr.units (qv 3) (qv 5) (fun _ _ => rfl)) (qa_cons (qv 6) (qa_cons (qv 7) qa_nil)))))))
      (qss_cons (qs_set (i := 11) sc__law_there.nd rfl (Or.inl rfl) (qe_op opU_add (qe_b cb_len (by rfl) z_len (by decide +kernel) (qa_cons (qe_ix hr.units (qv 0) qe_str (fun _ _ => rfl)) qa_nil)) qe_int))
      (qss_cons (qs_if (QW.qt (qw_and (qt_cmp opU_le (qv 11) (qe_b cb_len (by rfl) z_len (by decide +kernel) (qa_cons (qe_ix hr.units (qv 0) qe_str (fun _ _ => rfl)) qa_nil)) (nomark _)) (qw_and1 (qt_chain opU_le opU_lt (qv 4) (qe_call tk.px D__law_part (hr.mono (by decide)) (by rfl) (qa_cons (qe_ix hr.units (qe_ix hr.units (qe_ix hr.units (qv 0) qe_str (fun _ _ => rfl)) (qe_op opU_sub (qv 11) qe_int) (fun _ _ => rfl)) qe_int (fun _ _ => rfl)) qa_nil)) (qv 5))))) (qss_one (qs_ret (qe_tup (qa_cons (qv 10) (qa_cons (qe_call tk.px D__law_letters (hr.mono (by decide)) (by rfl) (qa_cons (qv 0) qa_nil)) qa_nil))))) qss_nil)
      (qss_one (qs_ret (qe_tup (qa_cons (qv 10) (qa_cons (qe_lV qa_nil) qa_nil)))))))))))))))
theorem sc__law_elsewhere : FnScope ["model", "number", "sender", "part", "routes", "route", "way", "at"] ["model", "number", "sender"] (defScope s__law_elsewhere) := ⟨rfl, rfl, rfl, by decide +kernel, rfl, by decide +kernel, by decide +kernel⟩
theorem ok__law_elsewhere {f : Addr} {fd : FuncData} (F : FnM K "_law_elsewhere" "_law_elsewhere" s__law_elsewhere f fd) (z_len : mg "len" = none) (D__law_part : DefQ P w K mg base 1 "_law_part" ["place_v"] f__law_part) :
    FnOk P w K mg base (L2N.CX P w) 2 f fd ["model", "number", "sender"] (spF K f__law_elsewhere) := by
  rw [f__law_elsewhere_eq]
  exact fn_w F sc__law_elsewhere (by decide) fun cdv A outer s H E hr tk po pa => (qss_cons (qs_if (QW.qt (qw_or (qt_cmp (opU_neq hr.units) (qv 1) (qe_op opU_add (qe_b cb_len (by rfl) z_len (by decide +kernel) (qa_cons (qe_ix hr.units (qv 0) qe_str (fun _ _ => rfl)) qa_nil)) qe_int) (nomark _)) (qw_or1 (qt_cmp opU_gt (qv 1) (qe_b cb_len (by rfl) z_len (by decide +kernel) (qa_cons (qe_ix hr.units (qv 0) qe_str (fun _ _ => rfl)) qa_nil)) (nomark _))))) (qss_one (qs_ret (qe_lV qa_nil))) qss_nil)
      (qss_cons (qs_set (i := 3) sc__law_elsewhere.nd rfl (Or.inl rfl) (qe_call tk.px D__law_part (hr.mono (by decide)) (by rfl) (qa_cons (qe_ix hr.units (qe_ix hr.units (qe_ix hr.units (qv 0) qe_str (fun _ _ => rfl)) (qe_op opU_sub (qv 1) qe_int) (fun _ _ => rfl)) qe_int (fun _ _ => rfl)) qa_nil)))
      (qss_cons (qs_set (i := 4) sc__law_elsewhere.nd rfl (Or.inl rfl) (qe_ix hr.units (qv 0) qe_str (fun _ _ => rfl)))
      (qss_cons (qs_set (i := 5) sc__law_elsewhere.nd rfl (Or.inl rfl) (qe_ix hr.units (qv 4) (qv 3) (fun _ _ => rfl)))
      (qss_cons (qs_if (QW.qt (qw_or (qt_cmp opU_is (qv 5) qe_non (nomark _)) (qw_or1 (qt_cmp (opU_neq hr.units) (qe_ix hr.units (qv 5) qe_int (fun _ _ => rfl)) (qv 2) (nomark _))))) (qss_one (qs_ret (qe_lV qa_nil))) qss_nil)
      (qss_cons (qs_for po (by rfl) (qi_seq (qe_lV (qa_cons (qe_un unU_neg qe_int) (qa_cons qe_int qa_nil)))) (qg_name (i := 6) sc__law_elsewhere.nd rfl (Or.inl rfl)) (qss_cons (qs_set (i := 7) sc__law_elsewhere.nd rfl (Or.inl rfl) (qe_op opU_add (qv 3) (qv 6)))
      (qss_one (qs_while po (QW.qt (qw_and (qt_cmp opU_ge (qv 7) qe_int (nomark _)) (qw_and (qt_cmp opU_lt (qv 7) qe_int (nomark _)) (qw_and1 (qt_cmp (opU_equ hr.units) (qe_ix hr.units (qv 4) (qv 7) (fun _ _ => rfl)) (qv 5) (nomark _)))))) (qss_cons (qs_put (hu_of hr) (qv 4) (qv 7) qe_non)
      (qss_one (qs_set (i := 7) sc__law_elsewhere.nd rfl (Or.inl rfl) (qe_op opU_add (qv 7) (qv 6)))))))))
      (qss_cons (qs_put (hu_of hr) (qv 4) (qv 3) qe_non)
      (qss_one (qs_ret (qe_lV qa_nil))))))))))
theorem sc__law_answer : FnScope ["model", "number", "answer", "done"] ["model", "number", "answer"] (defScope s__law_answer) := ⟨rfl, rfl, rfl, by decide +kernel, rfl, by decide +kernel, by decide +kernel⟩
theorem ok__law_answer {f : Addr} {fd : FuncData} (F : FnM K "_law_answer" "_law_answer" s__law_answer f fd) (z_len : mg "len" = none) (D__law_letters : DefQ P w K mg base 2 "_law_letters" ["model"] f__law_letters) :
    FnOk P w K mg base (L2N.CX P w) 3 f fd ["model", "number", "answer"] (spF K f__law_answer) := by
  rw [f__law_answer_eq]
  exact fn_w F sc__law_answer (by decide) fun cdv A outer s H E hr tk po pa => (qss_cons (qs_if (QW.qt (qw_or (qt_cmp (opU_neq hr.units) (qv 1) (qe_op opU_add (qe_b cb_len (by rfl) z_len (by decide +kernel) (qa_cons (qe_ix hr.units (qv 0) qe_str (fun _ _ => rfl)) qa_nil)) qe_int) (nomark _)) (qw_or1 (qt_cmp opU_gt (qv 1) (qe_b cb_len (by rfl) z_len (by decide +kernel) (qa_cons (qe_ix hr.units (qv 0) qe_str (fun _ _ => rfl)) qa_nil)) (nomark _))))) (qss_one (qs_ret (qe_lV qa_nil))) qss_nil)
      (qss_cons (qs_set (i := 3) sc__law_answer.nd rfl (Or.inl rfl) (qe_ix hr.units (qv 0) qe_str (fun _ _ => rfl)))
      (qss_cons (qs_expr (qe_bm tym_l PySem.F.plainAttrs_list PySem.F.slot_list_append PySem.F.type_list_append mU_app (qv 3) (qa_cons (qe_tup (qa_cons (qv 1) (qa_cons (qe_ix hr.units (qe_ix hr.units (qv 0) qe_str (fun _ _ => rfl)) (qe_op opU_sub (qv 1) qe_int) (fun _ _ => rfl)) (qa_cons (qv 2) qa_nil)))) qa_nil)))
      (qss_one (qs_ret (qe_call tk.px D__law_letters (hr.mono (by decide)) (by rfl) (qa_cons (qv 0) qa_nil)))))))
theorem sc__law_strange : FnScope ["client", "model", "rich", "number", "sender", "letter"] ["client", "model", "rich"] (defScope s__law_strange) := ⟨rfl, rfl, rfl, by decide +kernel, rfl, by decide +kernel, by decide +kernel⟩
theorem ok__law_strange {f : Addr} {fd : FuncData} (F : FnM K "_law_strange" "_law_strange" s__law_strange f fd) (z_len : mg "len" = none) (M_Client_receive : MetQ P w K mg base 12 "Client" "receive" ["self", "sender", "letter"] f_Client_receive_2) :
    FnOk P w K mg base (L2N.CX P w) 13 f fd ["client", "model", "rich"] (spF K f__law_strange) := by
  rw [f__law_strange_eq]
  exact fn_w F sc__law_strange (by decide) fun cdv A outer s H E hr tk po pa => (qss_cons (qs_set (i := 3) sc__law_strange.nd rfl (Or.inl rfl) (qe_op opU_add (qe_b cb_len (by rfl) z_len (by decide +kernel) (qa_cons (qe_ix hr.units (qv 1) qe_str (fun _ _ => rfl)) qa_nil)) qe_int))
      (qss_cons (qs_set (i := 4) sc__law_strange.nd rfl (Or.inl rfl) (qe_ix hr.units (qe_lV (qa_cons (qe_ix hr.units (qv 1) qe_str (fun _ _ => rfl)) (qa_cons (qe_un unU_neg qe_int) (qa_cons (qe_un unU_neg qe_int) (qa_cons qe_int (qa_cons qe_int (qa_cons qe_bl (qa_cons qe_non qa_nil)))))))) (qe_op opU_mod (qv 2) qe_int) (fun _ _ => rfl)))
      (qss_cons (qs_set (i := 5) sc__law_strange.nd rfl (Or.inl rfl) (qe_tup (qa_cons qe_str (qa_cons (qv 3) (qa_cons (qe_tup (qa_cons qe_str qa_nil)) qa_nil)))))
      (qss_jn (qs_if (qt_cmp (opU_equ hr.units) (qv 4) qe_int (nomark _)) (qss_one (qs_set (i := 5) sc__law_strange.nd rfl (Or.inl rfl) (qe_ix hr.units (qe_lV (qa_cons (qe_tup (qa_cons qe_str (qa_cons (qv 3) (qa_cons qe_str qa_nil)))) (qa_cons (qe_tup (qa_cons qe_str (qa_cons qe_str qa_nil))) (qa_cons qe_int (qa_cons (qe_tup (qa_cons qe_str (qa_cons (qv 3) qa_nil))) (qa_cons (qe_tup (qa_cons qe_str (qa_cons qe_str (qa_cons qe_non (qa_cons qe_int (qa_cons qe_int qa_nil)))))) qa_nil)))))) (qe_op opU_mod (qe_op opU_fdv (qv 2) qe_int) qe_int) (fun _ _ => rfl)))) qss_nil)
      (qss_one (qs_ret (qe_cmp (opU_equ hr.units) (qe_met tk.px (mets1 M_Client_receive) (hr.mono (by decide)) (qv 0) (qa_cons (qv 4) (qa_cons (qv 5) qa_nil))) (qe_lV qa_nil) (nomark _))))))))
theorem sc__law_call : FnScope ["client", "model", "rich", "k", "choice", "rest", "number", "sender", "op", "queue", "due", "answer", "letter"] ["client", "model", "rich", "k"] (defScope s__law_call) := ⟨rfl, rfl, rfl, by decide +kernel, rfl, by decide +kernel, by decide +kernel⟩
theorem ok__law_call {f : Addr} {fd : FuncData} (F : FnM K "_law_call" "_law_call" s__law_call f fd) (z_max : mg "max" = none) (z_len : mg "len" = none) (D__law_operation : DefQ P w K mg base 4 "_law_operation" ["rich"] f__law_operation) (D__law_letters : DefQ P w K mg base 2 "_law_letters" ["model"] f__law_letters) (M_Client_submit : MetQ P w K mg base 7 "Client" "submit" ["self", "op"] f_Client_submit) (M_Client_tick : MetQ P w K mg base 7 "Client" "tick" ["self"] f_Client_tick_2) (D__law_there : DefQ P w K mg base 3 "_law_there" ["model", "rich", "k"] f__law_there) (M_Client_receive : MetQ P w K mg base 12 "Client" "receive" ["self", "sender", "letter"] f_Client_receive_2) (D__law_elsewhere : DefQ P w K mg base 2 "_law_elsewhere" ["model", "number", "sender"] f__law_elsewhere) (D__law_answer : DefQ P w K mg base 3 "_law_answer" ["model", "number", "answer"] f__law_answer) (D__law_strange : DefQ P w K mg base 13 "_law_strange" ["client", "model", "rich"] f__law_strange) :
    FnOk P w K mg base (L2N.CX P w) 14 f fd ["client", "model", "rich", "k"] (spF K f__law_call_2) := by
  rw [f__law_call_2_eq]
  exact fn_w F sc__law_call (by decide) fun cdv A outer s H E hr tk po pa => (qss_cons (qs_set (i := 4) sc__law_call.nd rfl (Or.inl rfl) (qe_op opU_mod (qv 2) qe_int))
      (qss_cons (qs_set (i := 5) sc__law_call.nd rfl (Or.inl rfl) (qe_op opU_fdv (qv 2) qe_int))
      (qss_cons (qs_set (i := 6) sc__law_call.nd rfl (Or.inl rfl) (qe_b (cb_max rfl) (by rfl) z_max (by decide +kernel) (qa_cons qe_int (qa_cons (qe_op opU_add (qe_b cb_len (by rfl) z_len (by decide +kernel) (qa_cons (qe_ix hr.units (qv 1) qe_str (fun _ _ => rfl)) qa_nil)) (qe_ix hr.units (qe_lV (qa_cons qe_int (qa_cons qe_int (qa_cons qe_int (qa_cons qe_int (qa_cons qe_int qa_nil)))))) (qe_op opU_mod (qv 5) qe_int) (fun _ _ => rfl))) qa_nil))))
      (qss_cons (qs_set (i := 7) sc__law_call.nd rfl (Or.inl rfl) (qe_op opU_mod (qe_op opU_fdv (qv 5) qe_int) (qe_ix hr.units (qv 1) qe_str (fun _ _ => rfl))))
      (qss_cons (qs_if (QW.qt (qw_or (qt_cmp (opU_equ hr.units) (qv 4) qe_int (nomark _)) (qw_or1 (qt_cmp (opU_equ hr.units) (qv 4) qe_int (nomark _))))) (qss_cons (qs_set (i := 8) sc__law_call.nd rfl (Or.inl rfl) (qe_call tk.px D__law_operation (hr.mono (by decide)) (by rfl) (qa_cons (qv 5) qa_nil)))
      (qss_cons (qs_set (i := 9) sc__law_call.nd rfl (Or.inl rfl) (qe_ix hr.units (qv 1) qe_str (fun _ _ => rfl)))
      (qss_cons (qs_expr (qe_bm tym_l PySem.F.plainAttrs_list PySem.F.slot_list_append PySem.F.type_list_append mU_app (qv 9) (qa_cons (qv 8) qa_nil)))
      (qss_cons (qs_set (i := 10) sc__law_call.nd rfl (Or.inl rfl) (qe_if (qt_cmp (opU_equ hr.units) (qe_b cb_len (by rfl) z_len (by decide +kernel) (qa_cons (qv 9) qa_nil)) (qe_op opU_add (qe_b cb_len (by rfl) z_len (by decide +kernel) (qa_cons (qe_ix hr.units (qv 1) qe_str (fun _ _ => rfl)) qa_nil)) qe_int) (nomark _)) (qe_call tk.px D__law_letters (hr.mono (by decide)) (by rfl) (qa_cons (qv 1) qa_nil)) (qe_lV qa_nil)))
      (qss_one (qs_ret (qe_cmp (opU_equ hr.units) (qe_met tk.px (mets1 M_Client_submit) (hr.mono (by decide)) (qv 0) (qa_cons (qv 8) qa_nil)) (qv 10) (nomark _)))))))) qss_nil)
      (qss_cons (qs_if (qt_cmp (opU_equ hr.units) (qv 4) qe_int (nomark _)) (qss_one (qs_ret (qe_cmp (opU_equ hr.units) (qe_met0 tk.px (mets1 M_Client_tick) (hr.mono (by decide)) (qv 0)) (qe_call tk.px D__law_letters (hr.mono (by decide)) (by rfl) (qa_cons (qv 1) qa_nil)) (nomark _)))) qss_nil)
      (qss_cons (qs_if (QW.qt (qw_or (qt_cmp (opU_equ hr.units) (qv 4) qe_int (nomark _)) (qw_or1 (qt_cmp (opU_equ hr.units) (qv 4) qe_int (nomark _))))) (qss_cons (qs_asg (qe_call tk.px D__law_there (hr.mono (by decide)) (by rfl) (qa_cons (qv 1) (qa_cons (qv 5) (qa_cons (qv 3) qa_nil)))) (qg_tup (by rfl) (qgs_cons (qg_name (i := 12) sc__law_call.nd rfl (Or.inl rfl)) (qgs_cons (qg_name (i := 10) sc__law_call.nd rfl (Or.inl rfl)) qgs_nil))))
      (qss_one (qs_ret (qe_cmp (opU_equ hr.units) (qe_met tk.px (mets1 M_Client_receive) (hr.mono (by decide)) (qv 0) (qa_cons qe_int (qa_cons (qv 12) qa_nil))) (qv 10) (nomark _))))) qss_nil)
      (qss_cons (qs_if (qt_cmp (opU_equ hr.units) (qv 4) qe_int (nomark _)) (qss_cons (qs_set (i := 10) sc__law_call.nd rfl (Or.inl rfl) (qe_call tk.px D__law_elsewhere (hr.mono (by decide)) (by rfl) (qa_cons (qv 1) (qa_cons (qv 6) (qa_cons (qv 7) qa_nil)))))
      (qss_one (qs_ret (qe_cmp (opU_equ hr.units) (qe_met tk.px (mets1 M_Client_receive) (hr.mono (by decide)) (qv 0) (qa_cons (qv 7) (qa_cons (qe_tup (qa_cons qe_str (qa_cons (qv 6) qa_nil))) qa_nil))) (qv 10) (nomark _))))) qss_nil)
      (qss_cons (qs_if (qt_cmp (opU_equ hr.units) (qv 4) qe_int (nomark _)) (qss_cons (qs_set (i := 11) sc__law_call.nd rfl (Or.inl rfl) (qe_ix hr.units (qe_lV (qa_cons (qe_tup (qa_cons qe_str qa_nil)) (qa_cons (qe_tup (qa_cons qe_str qa_nil)) (qa_cons (qe_tup (qa_cons qe_str (qa_cons qe_str qa_nil))) qa_nil)))) (qe_op opU_mod (qe_op opU_fdv (qv 5) qe_int) qe_int) (fun _ _ => rfl)))
      (qss_cons (qs_set (i := 10) sc__law_call.nd rfl (Or.inl rfl) (qe_call tk.px D__law_answer (hr.mono (by decide)) (by rfl) (qa_cons (qv 1) (qa_cons (qv 6) (qa_cons (qv 11) qa_nil)))))
      (qss_one (qs_ret (qe_cmp (opU_equ hr.units) (qe_met tk.px (mets1 M_Client_receive) (hr.mono (by decide)) (qv 0) (qa_cons (qv 7) (qa_cons (qe_tup (qa_cons qe_str (qa_cons (qv 6) (qa_cons (qv 11) qa_nil)))) qa_nil))) (qv 10) (nomark _)))))) qss_nil)
      (qss_one (qs_ret (qe_call tk.px D__law_strange (hr.mono (by decide)) (by rfl) (qa_cons (qv 0) (qa_cons (qv 1) (qa_cons (qv 5) qa_nil)))))))))))))))
theorem sc__law_pieces : FnScope ["routes", "cuts", "pieces", "last", "part", "route"] ["routes"] (defScope s__law_pieces) := ⟨rfl, rfl, rfl, by decide +kernel, rfl, by decide +kernel, by decide +kernel⟩
theorem ok__law_pieces {f : Addr} {fd : FuncData} (F : FnM K "_law_pieces" "_law_pieces" s__law_pieces f fd) (z_range : mg "range" = none) :
    FnOk P w K mg base (L2N.CX P w) 1 f fd ["routes"] (spF K f__law_pieces_2) := by
  rw [f__law_pieces_2_eq]
  exact fn_w F sc__law_pieces (by decide) fun cdv A outer s H E hr tk po pa => (qss_cons (qs_set (i := 1) sc__law_pieces.nd rfl (Or.inl rfl) (qe_lV (qa_cons qe_str (qa_cons qe_str (qa_cons qe_str (qa_cons qe_str (qa_cons qe_non qa_nil)))))))
      (qss_cons (qs_set (i := 2) sc__law_pieces.nd rfl (Or.inl rfl) (qe_lR qa_nil))
      (qss_cons (qs_set (i := 3) sc__law_pieces.nd rfl (Or.inl rfl) qe_non)
      (qss_cons (qs_for po (by rfl) (qi_range1 (by rfl) z_range (qa_cons qe_int qa_nil)) (qg_name (i := 4) sc__law_pieces.nd rfl (Or.inl rfl)) (qss_cons (qs_set (i := 5) sc__law_pieces.nd rfl (Or.inl rfl) (qe_ix hr.units (qv 0) (qv 4) (fun _ _ => rfl)))
      (qss_jn (qs_if (QW.qt (qw_and (qt_cmp opU_isnt (qv 5) qe_non (nomark _)) (qw_and1 (qt_cmp (opU_equ hr.units) (qv 5) (qv 3) (nomark _))))) (qss_one (qs_put (hu_of hr) (qv 2) (qe_un unU_neg qe_int) (qe_tup (qa_cons (qe_ix hr.units (qe_ix hr.units (qv 2) (qe_un unU_neg qe_int) (fun _ _ => rfl)) qe_int (fun _ _ => rfl)) (qa_cons (qe_ix hr.units (qv 1) (qe_op opU_add (qv 4) qe_int) (fun _ _ => rfl)) (qa_cons (qe_ix hr.units (qv 5) qe_int (fun _ _ => rfl)) qa_nil)))))) (qss_one (qs_if (qt_cmp opU_isnt (qv 5) qe_non (nomark _)) (qss_one (qs_expr (qe_bm tym_l PySem.F.plainAttrs_list PySem.F.slot_list_append PySem.F.type_list_append mU_app (qv 2) (qa_cons (qe_tup (qa_cons (qe_ix hr.units (qv 1) (qv 4) (fun _ _ => rfl)) (qa_cons (qe_ix hr.units (qv 1) (qe_op opU_add (qv 4) qe_int) (fun _ _ => rfl)) (qa_cons (qe_ix hr.units (qv 5) qe_int (fun _ _ => rfl)) qa_nil)))) qa_nil)))) qss_nil)))
      (qss_one (qs_set (i := 3) sc__law_pieces.nd rfl (Or.inl rfl) (qv 5))))))
      (qss_one (qs_ret (qv 2)))))))
theorem sc__law_same : FnScope ["client", "model", "number", "pending", "accepted"] ["client", "model"] (defScope s__law_same) := ⟨rfl, rfl, rfl, by decide +kernel, rfl, by decide +kernel, by decide +kernel⟩
theorem ok__law_same {f : Addr} {fd : FuncData} (F : FnM K "_law_same" "_law_same" s__law_same f fd) (z_len : mg "len" = none) (M_Client_pending : MetQ P w K mg base 1 "Client" "pending" ["self"] f_Client_pending) (M_Client_accepted : MetQ P w K mg base 1 "Client" "accepted" ["self"] f_Client_accepted_2) (z_isinstance : mg "isinstance" = none) (z_list : mg "list" = none) (M_Client_pieces : MetQ P w K mg base 2 "Client" "pieces" ["self"] f_Client_pieces_2) (D__law_pieces : DefQ P w K mg base 1 "_law_pieces" ["routes"] f__law_pieces_2) :
    FnOk P w K mg base (L2N.CX P w) 3 f fd ["client", "model"] (spF K f__law_same_2) := by
  rw [f__law_same_2_eq]
  exact fn_w F sc__law_same (by decide) fun cdv A outer s H E hr tk po pa => (qss_cons (qs_set (i := 2) sc__law_same.nd rfl (Or.inl rfl) (qe_op opU_add (qe_b cb_len (by rfl) z_len (by decide +kernel) (qa_cons (qe_ix hr.units (qv 1) qe_str (fun _ _ => rfl)) qa_nil)) qe_int))
      (qss_cons (qs_set (i := 3) sc__law_same.nd rfl (Or.inl rfl) (qe_met0 tk.px (mets1 M_Client_pending) (hr.mono (by decide)) (qv 0)))
      (qss_jn (qs_if (qt_cmp opU_gt (qv 2) (qe_b cb_len (by rfl) z_len (by decide +kernel) (qa_cons (qe_ix hr.units (qv 1) qe_str (fun _ _ => rfl)) qa_nil)) (nomark _)) (qss_one (qs_if (qt_cmp opU_isnt (qv 3) qe_non (nomark _)) (qss_one (qs_ret qe_bl)) qss_nil)) (qss_one (qs_if (qt_cmp (opU_neq hr.units) (qv 3) (qe_tup (qa_cons (qv 2) (qa_cons (qe_ix hr.units (qe_ix hr.units (qv 1) qe_str (fun _ _ => rfl)) (qe_op opU_sub (qv 2) qe_int) (fun _ _ => rfl)) qa_nil))) (nomark _)) (qss_one (qs_ret qe_bl)) qss_nil)))
      (qss_cons (qs_set (i := 4) sc__law_same.nd rfl (Or.inl rfl) (qe_met0 tk.px (mets1 M_Client_accepted) (hr.mono (by decide)) (qv 0)))
      (qss_cons (qs_if (QW.qt (qw_or (qt_not (qt_val (qe_isi .lst (by rfl) z_isinstance (by rfl) z_list (by decide +kernel) (qv 4)))) (qw_or1 (qt_cmp (opU_neq hr.units) (qv 4) (qe_ix hr.units (qv 1) qe_str (fun _ _ => rfl)) (nomark _))))) (qss_one (qs_ret qe_bl)) qss_nil)
      (qss_cons (qs_expr (qe_bm tym_l PySem.F.plainAttrs_list PySem.F.slot_list_append PySem.F.type_list_append mU_app (qv 4) (qa_cons qe_int qa_nil)))
      (qss_one (qs_ret (qe_and (qe_cmp (opU_equ hr.units) (qe_met0 tk.px (mets1 M_Client_accepted) (hr.mono (by decide)) (qv 0)) (qe_ix hr.units (qv 1) qe_str (fun _ _ => rfl)) (nomark _)) (qe_one (qe_cmp (opU_equ hr.units) (qe_met0 tk.px (mets1 M_Client_pieces) (hr.mono (by decide)) (qv 0)) (qe_call tk.px D__law_pieces (hr.mono (by decide)) (by rfl) (qa_cons (qe_ix hr.units (qv 1) qe_str (fun _ _ => rfl)) qa_nil)) (nomark _))))))))))))
theorem sc_law : FnScope ["script", "count", "client", "model", "k"] ["script"] (defScope s_law) := ⟨rfl, rfl, rfl, by decide +kernel, rfl, by decide +kernel, by decide +kernel⟩
theorem ok_law {f : Addr} {fd : FuncData} (F : FnM K "law" "law" s_law f fd) (D__law_cell : DefQ P w K mg base 1 "_law_cell" ["script", "k"] f__law_cell_2) (K_Client : MakQ P w K mg base 3 "Client" ["self", "name", "count"] f_Client___init___2) (z_range : mg "range" = none) (z_len : mg "len" = none) (D__law_rich : DefQ P w K mg base 1 "_law_rich" ["cell", "k"] f__law_rich) (D__law_call : DefQ P w K mg base 14 "_law_call" ["client", "model", "rich", "k"] f__law_call_2) (D__law_same : DefQ P w K mg base 3 "_law_same" ["client", "model"] f__law_same_2) :
    FnOk P w K mg base CX0 15 f fd ["script"] (spL K f_law_12) := by
  rw [f_law_12_eq]
  exact fn_l F sc_law (by decide) fun cdv A outer s H E hr tk po pa => (qss_cons (qs_set (i := 1) sc_law.nd rfl (Or.inl rfl) (qe_op opU_add qe_int (qe_op opU_mod (qe_call tk.px D__law_cell (hr.mono (by decide)) (by rfl) (qa_cons (qv 0) (qa_cons qe_int qa_nil))) qe_int)))
      (qss_cons (qs_set (i := 2) sc_law.nd rfl (Or.inl rfl) (qe_mak tk.px K_Client (hr.mono (by decide)) (by rfl) (qa_cons (qe_un unU_neg qe_int) (qa_cons (qv 1) qa_nil))))
      (qss_cons (qs_set (i := 3) sc_law.nd rfl (Or.inl rfl) (qe_ds (qp_cons qe_str (qv 1) (qp_cons qe_str (qe_lR qa_nil) (qp_cons qe_str (qe_lR qa_nil) (qp_cons qe_str (qe_lR (qa_cons qe_non (qa_cons qe_non (qa_cons qe_non (qa_cons qe_non qa_nil))))) qp_nil)))) rfl rfl (List.cons_ne_nil _ _) (Nat.le_of_ble_eq_true rfl) (Nat.le_of_ble_eq_true rfl)))
      (qss_cons (qs_for po (by rfl) (qi_range2 (by rfl) z_range (qa_cons qe_int (qa_cons (qe_b cb_len (by rfl) z_len (by decide +kernel) (qa_cons (qv 0) qa_nil)) qa_nil))) (qg_name (i := 4) sc_law.nd rfl (Or.inl rfl)) (qss_cons (qs_if (qt_not (qt_val (qe_call tk.px D__law_call (hr.mono (by decide)) (by rfl) (qa_cons (qv 2) (qa_cons (qv 3) (qa_cons (qe_call tk.px D__law_rich (hr.mono (by decide)) (by rfl) (qa_cons (qe_ix hr.units (qv 0) (qv 4) (fun _ _ => rfl)) (qa_cons (qv 4) qa_nil))) (qa_cons (qv 4) qa_nil))))))) (qss_one (qs_ret qe_bl)) qss_nil)
      (qss_one (qs_if (qt_not (qt_val (qe_call tk.px D__law_same (hr.mono (by decide)) (by rfl) (qa_cons (qv 2) (qa_cons (qv 3) qa_nil))))) (qss_one (qs_ret qe_bl)) qss_nil))))
      (qss_one (qs_ret (qe_call tk.px D__law_same (hr.mono (by decide)) (by rfl) (qa_cons (qv 2) (qa_cons (qv 3) qa_nil)))))))))
end
end K58
namespace Q
open PySem L2
local macro_rules | `(tactic| walk_at "mu") => `(tactic| (repeat (first | exact mset_same | assumption | (rw [mset_ne]; rotate_left; (first | assumption | exact Ne.symm (by assumption))))))
local macro_rules | `(tactic| walk_at "lk") => `(tactic| (repeat (first | exact lk_hit | exact lk_nil | refine lk_skip (by decide +kernel) ?_)))
local macro_rules | `(tactic| walk_at "q") => `(tactic| ((with_reducible conv => whnf); repeat (first
  | (with_reducible refine q_t (by with_reducible rfl) ?_; with_reducible conv => whnf)
  | (with_reducible refine q_f (by with_reducible rfl) ?_; with_reducible conv => whnf)
  | (with_reducible refine q_t (by decide) ?_; with_reducible conv => whnf)
  | (with_reducible refine q_f (by decide) ?_; with_reducible conv => whnf)
  | (with_reducible refine q_t (decide_eq_true (by omega)) ?_; with_reducible conv => whnf)
  | (with_reducible refine q_f (decide_eq_false (by omega)) ?_; with_reducible conv => whnf)
  | (with_reducible refine q_f (q_nn (by omega)) ?_; with_reducible conv => whnf)
  | (with_reducible refine q_t (q_nt (by omega)) ?_; with_reducible conv => whnf)
  | (with_reducible refine q_len (by with_unfolding_all rfl) ?_; with_reducible conv => whnf)
  | (with_reducible refine q_leq (by with_unfolding_all rfl) ?_; with_reducible conv => whnf)
  | (with_reducible refine q_and (by first | assumption | exact True.intro | omega | (simp only [List.length_map, List.length_append, List.length_cons, List.length_nil]; omega) | decide) ?_; with_reducible conv => whnf)
  | (with_reducible refine q_le (by with_unfolding_all rfl) ?_; with_reducible conv => whnf)
  | (with_reducible refine q_and tyL_lst ?_; with_reducible conv => whnf)
  | (with_reducible refine q_and tyL_rol ?_; with_reducible conv => whnf)
  | (with_reducible refine q_and (tyL_ref (by walk_at "mu")) ?_; with_reducible conv => whnf)
  | (with_reducible refine q_and (tyD_ref (by walk_at "mu")) ?_; with_reducible conv => whnf)
  | (with_reducible refine q_and (rdD_ref (by walk_at "mu")) ?_; with_reducible conv => whnf)
  | (rw [pick_c0]; with_reducible conv => whnf)
  | (rw [pick_c1]; with_reducible conv => whnf)
  | (rw [pick_c2]; with_reducible conv => whnf)
  | (rw [pick_c3]; with_reducible conv => whnf)
  | (rw [pick_c4]; with_reducible conv => whnf)
  | (rw [pick_c5]; with_reducible conv => whnf)
  | (rw [mset_same]; with_reducible conv => whnf)
  | (rw [mset_ne (by assumption)]; with_reducible conv => whnf)
  | (rw [mset_ne]; rotate_left; (first | assumption | exact Ne.symm (by assumption)); with_reducible conv => whnf)
  | (rw [rdL_ref]; rotate_left; (focus (walk_at "mu"; done)); with_reducible conv => whnf)
  | (rw [rdL_refD]; rotate_left; (focus (walk_at "mu"; done)); with_reducible conv => whnf)
  | (rw [rdD_refD]; rotate_left; (focus (walk_at "mu"; done)); with_reducible conv => whnf)
  | (rw [rdM_ref]; rotate_left; (focus (walk_at "mu"; done)); with_reducible conv => whnf)
  | (rw [rdL_refK]; rotate_left; (focus (walk_at "mu"; done)); with_reducible conv => whnf)
  | (rw [rdD_refK]; rotate_left; (focus (walk_at "mu"; done)); with_reducible conv => whnf)
  | (rw [tyW_refL]; rotate_left; (focus (walk_at "mu"; done)); with_reducible conv => whnf)
  | (rw [tyW_refD]; rotate_left; (focus (walk_at "mu"; done)); with_reducible conv => whnf)
  | (rw [drf_ref]; rotate_left; (focus (walk_at "mu"; done)); with_reducible conv => whnf)
  | ((conv => (arg 2; tactic' => (walk_at "mu"; done))); with_reducible conv => whnf)
  | (with_reducible refine q_and (Eq.refl _) ?_; with_reducible conv => whnf)
  | (with_reducible refine q_and (MulO.r (by decide)) ?_; with_reducible conv => whnf)
  | (with_reducible refine q_and (MulO.l (by decide)) ?_; with_reducible conv => whnf)
  | (with_reducible refine q_and (MulO.r (by omega)) ?_; with_reducible conv => whnf)
  | (with_reducible refine q_and (MulO.l (by omega)) ?_; with_reducible conv => whnf)
  | (with_reducible refine q_pow (by decide) ?_; with_reducible conv => whnf)
  | (with_reducible refine q_eqI ?_; with_reducible conv => whnf)
  | (with_reducible refine q_eqS ?_; with_reducible conv => whnf)
  | (with_reducible refine q_eqB ?_; with_reducible conv => whnf)
  | (with_reducible refine q_neI ?_; with_reducible conv => whnf)
  | (with_reducible refine q_neS ?_; with_reducible conv => whnf)
  | (with_reducible refine q_neB ?_; with_reducible conv => whnf)
  | (with_reducible refine q_memc ?_; with_reducible conv => whnf)
  | (with_reducible refine q_lkn (by walk_at "lk") ?_; with_reducible conv => whnf)
  | (with_reducible refine q_tix (by walk_at "lk"; done) ?_; with_reducible conv => whnf)
  | (with_reducible refine q_tin ?_; with_reducible conv => whnf)
  | (rw [pf_hit]; with_reducible conv => whnf)
  | (rw [pf_skip]; rotate_left; (focus (decide +kernel; done)); with_reducible conv => whnf)
  | (rw [lk_hit]; with_reducible conv => whnf)
  | (rw [lk_skip1]; rotate_left; (focus (decide +kernel; done)); with_reducible conv => whnf))))
/-! integers, kinds -/
theorem sp_is_integer {i a b : Int} {μ : Mu} {P : Po} {X : Xo} (h : P (.bl (decide (a ≤ i) && decide (i ≤ b))) μ) : f_is_integer [.int i, .int a, .int b] μ P X := by
  rw [f_is_integer_eq]; unfold f_is_integer_B fDef
  refine ⟨rfl, ?_⟩
  walk_at "q"
  refine q_ifP (fun c => ?_) fun c => ?_
  · rw [decide_eq_true c, Bool.true_and] at h
    walk_at "q"
    exact Rt.now h
  · rw [decide_eq_false c, Bool.false_and] at h
    exact Rt.now h
theorem sp_kind_tup {k : Str} {r : List W} {μ : Mu} {P : Po} {X : Xo} (h : P (.str k) μ) : f_kind_of [.tup (.str k :: r)] μ P X := by
  rw [f_kind_of_eq]; unfold f_kind_of_B fDef
  refine ⟨rfl, ?_⟩
  walk_at "q"
  refine q_t (decide_eq_true (by rw [List.length_cons]; omega)) ?_
  walk_at "q"
  exact Rt.now h
end Q
namespace Q
open PySem L2
local macro_rules | `(tactic| walk_at "mu") => `(tactic| (repeat (first | exact mset_same | assumption | (rw [mset_ne]; rotate_left; (first | assumption | exact Ne.symm (by assumption))))))
local macro_rules | `(tactic| walk_at "lk") => `(tactic| (repeat (first | exact lk_hit | exact lk_nil | refine lk_skip (by decide +kernel) ?_)))
local macro_rules | `(tactic| walk_at "q") => `(tactic| ((with_reducible conv => whnf); repeat (first
  | (with_reducible refine q_t (by assumption) ?_; with_reducible conv => whnf)
  | (with_reducible refine q_f (by assumption) ?_; with_reducible conv => whnf)
  | (with_reducible refine q_t (by with_reducible rfl) ?_; with_reducible conv => whnf)
  | (with_reducible refine q_f (by with_reducible rfl) ?_; with_reducible conv => whnf)
  | (with_reducible refine q_t (by decide) ?_; with_reducible conv => whnf)
  | (with_reducible refine q_f (by decide) ?_; with_reducible conv => whnf)
  | (with_reducible refine q_t (decide_eq_true (by omega)) ?_; with_reducible conv => whnf)
  | (with_reducible refine q_f (decide_eq_false (by omega)) ?_; with_reducible conv => whnf)
  | (with_reducible refine q_f (q_nn (by omega)) ?_; with_reducible conv => whnf)
  | (with_reducible refine q_t (q_nt (by omega)) ?_; with_reducible conv => whnf)
  | (with_reducible refine q_len (by with_unfolding_all rfl) ?_; with_reducible conv => whnf)
  | (with_reducible refine q_leq (by with_unfolding_all rfl) ?_; with_reducible conv => whnf)
  | (with_reducible refine q_and (by first | assumption | exact True.intro | omega | (simp only [List.length_map, List.length_append, List.length_cons, List.length_nil]; omega) | decide) ?_; with_reducible conv => whnf)
  | (with_reducible refine q_le (by with_unfolding_all rfl) ?_; with_reducible conv => whnf)
  | (with_reducible refine q_and tyL_lst ?_; with_reducible conv => whnf)
  | (with_reducible refine q_and tyL_rol ?_; with_reducible conv => whnf)
  | (with_reducible refine q_and (tyL_ref (by walk_at "mu")) ?_; with_reducible conv => whnf)
  | (with_reducible refine q_and (tyD_ref (by walk_at "mu")) ?_; with_reducible conv => whnf)
  | (with_reducible refine q_and (rdD_ref (by walk_at "mu")) ?_; with_reducible conv => whnf)
  | (rw [pick_c0]; with_reducible conv => whnf)
  | (rw [pick_c1]; with_reducible conv => whnf)
  | (rw [pick_c2]; with_reducible conv => whnf)
  | (rw [pick_c3]; with_reducible conv => whnf)
  | (rw [pick_c4]; with_reducible conv => whnf)
  | (rw [pick_c5]; with_reducible conv => whnf)
  | (rw [mset_same]; with_reducible conv => whnf)
  | (rw [mset_ne (by assumption)]; with_reducible conv => whnf)
  | (rw [mset_ne]; rotate_left; (first | assumption | exact Ne.symm (by assumption)); with_reducible conv => whnf)
  | (rw [rdL_ref]; rotate_left; (focus (walk_at "mu"; done)); with_reducible conv => whnf)
  | (rw [rdL_refD]; rotate_left; (focus (walk_at "mu"; done)); with_reducible conv => whnf)
  | (rw [rdD_refD]; rotate_left; (focus (walk_at "mu"; done)); with_reducible conv => whnf)
  | (rw [rdM_ref]; rotate_left; (focus (walk_at "mu"; done)); with_reducible conv => whnf)
  | (rw [rdL_refK]; rotate_left; (focus (walk_at "mu"; done)); with_reducible conv => whnf)
  | (rw [rdD_refK]; rotate_left; (focus (walk_at "mu"; done)); with_reducible conv => whnf)
  | (rw [tyW_refL]; rotate_left; (focus (walk_at "mu"; done)); with_reducible conv => whnf)
  | (rw [tyW_refD]; rotate_left; (focus (walk_at "mu"; done)); with_reducible conv => whnf)
  | (rw [drf_ref]; rotate_left; (focus (walk_at "mu"; done)); with_reducible conv => whnf)
  | ((conv => (arg 2; tactic' => (walk_at "mu"; done))); with_reducible conv => whnf)
  | (with_reducible refine q_and (Eq.refl _) ?_; with_reducible conv => whnf)
  | (with_reducible refine q_and (MulO.r (by decide)) ?_; with_reducible conv => whnf)
  | (with_reducible refine q_and (MulO.l (by decide)) ?_; with_reducible conv => whnf)
  | (with_reducible refine q_and (MulO.r (by omega)) ?_; with_reducible conv => whnf)
  | (with_reducible refine q_and (MulO.l (by omega)) ?_; with_reducible conv => whnf)
  | (with_reducible refine q_pow (by decide) ?_; with_reducible conv => whnf)
  | (with_reducible refine q_nisT (by first | assumption | with_reducible rfl) ?_; with_reducible conv => whnf)
  | (with_reducible refine q_nisF (by first | assumption | with_reducible rfl) ?_; with_reducible conv => whnf)
  | (with_reducible refine q_eqI ?_; with_reducible conv => whnf)
  | (with_reducible refine q_eqS ?_; with_reducible conv => whnf)
  | (with_reducible refine q_eqB ?_; with_reducible conv => whnf)
  | (with_reducible refine q_neI ?_; with_reducible conv => whnf)
  | (with_reducible refine q_neS ?_; with_reducible conv => whnf)
  | (with_reducible refine q_neB ?_; with_reducible conv => whnf)
  | (with_reducible refine q_memc ?_; with_reducible conv => whnf)
  | (with_reducible refine q_lkn (by walk_at "lk") ?_; with_reducible conv => whnf)
  | (with_reducible refine q_tix (by walk_at "lk"; done) ?_; with_reducible conv => whnf)
  | (with_reducible refine q_tin ?_; with_reducible conv => whnf)
  | (rw [pf_hit]; with_reducible conv => whnf)
  | (rw [pf_skip]; rotate_left; (focus (decide +kernel; done)); with_reducible conv => whnf)
  | (rw [lk_hit]; with_reducible conv => whnf)
  | (rw [lk_skip1]; rotate_left; (focus (decide +kernel; done)); with_reducible conv => whnf))))
/-! keys -/
def isKeyB (z : Str) : Bool := decide (1 ≤ z.length ∧ z.length ≤ 8) && z.cps.toList.all fun c => decide (97 ≤ c ∧ c ≤ 122)
theorem l_a : ("a" : Str) = ⟨#[97]⟩ := by decide +kernel
theorem l_z : ("z" : Str) = ⟨#[122]⟩ := by decide +kernel
def keyCh (w : W) : Bool := match w with
  | .str x => !sLt x "a" && !sLt "z" x
  | _ => false
theorem keyCh_all (z : Str) : (signs z).all keyCh = z.cps.toList.all fun c => decide (97 ≤ c ∧ c ≤ 122) := by
  unfold signs
  rw [List.all_map]
  congr 1
  funext c
  show (!sLt ⟨#[c]⟩ "a" && !sLt "z" ⟨#[c]⟩) = decide (97 ≤ c ∧ c ≤ 122)
  rw [l_a, l_z, slt_one, slt_one]
  by_cases h1 : c < 97 <;> by_cases h2 : 122 < c <;> simp [h1, h2] <;> omega
theorem sp_is_key {z : Str} {μ : Mu} {P : Po} {X : Xo} (hz : z.length ≤ 16000000) (h : P (.bl (isKeyB z)) μ) : f_is_key [.str z] μ P X := by
  rw [f_is_key_eq]; unfold f_is_key_B fDef
  refine ⟨rfl, ?_⟩
  have no : ¬(1 ≤ z.length ∧ z.length ≤ 8) → P (.bl false) μ := fun c => by
    unfold isKeyB at h
    rw [decide_eq_false c] at h
    exact h
  walk_at "q"
  refine q_ifP (fun c1 => ?_) fun c1 => ?_
  · walk_at "q"
    refine q_ifN (fun c2 => ?_) fun c2 => ?_
    · walk_at "q"
      have e : isKeyB z = (signs z).all keyCh := by
        rw [keyCh_all]
        unfold isKeyB
        rw [decide_eq_true (by omega)]
        rfl
      rw [e] at h
      refine itS_ret (v := .bl false) keyCh (fun ρ => ∃ x, ρ = [some (.str z), x]) trivial _ ⟨none, rfl⟩ (fun w hw ρ hρ K hy hn => ?_) (fun a ρ hρ => ?_) fun a => ?_
      · obtain ⟨x, rfl⟩ := hρ
        obtain ⟨c, _, rfl⟩ := List.mem_map.mp hw
        walk_at "q"
        have e2 : keyCh (.str ⟨#[c]⟩) = (!sLt ⟨#[c]⟩ "a" && !sLt "z" ⟨#[c]⟩) := rfl
        rw [e2] at hy hn
        refine q_if (fun c3 => ?_) fun c3 => ?_
        · rw [c3] at hy hn
          walk_at "q"
          refine q_if (fun c4 => ?_) fun c4 => ?_
          · walk_at "q"
            exact hn (by rw [show (!sLt "z" (⟨#[c]⟩ : Str)) = false by simpa using c4]; rfl)
          · walk_at "q"
            exact hy (by rw [show (!sLt "z" (⟨#[c]⟩ : Str)) = true by simpa using c4]; rfl) _ ⟨_, rfl⟩
        · rw [c3] at hy hn
          walk_at "q"
          exact hn rfl
      · rw [a] at h
        exact Rt.now h
      · rw [a] at h
        exact Rt.now h
    · walk_at "q"
      exact Rt.now (no fun q => c2 (by omega))
  · walk_at "q"
    exact Rt.now (no fun q => c1 (by omega))
@[reducible] def oS : Option Str → W
  | none => .non
  | some x => .str x
def belowB (x : Str) (y : Option Str) : Bool := match y with
  | none => true
  | some y => sLt x y
theorem sp_below {x : Str} {y : Option Str} {μ : Mu} {P : Po} {X : Xo} (h : P (.bl (belowB x y)) μ) : f_below [.str x, oS y] μ P X := by
  cases y with
  | none =>
    rw [f_below_eq]; unfold f_below_B fDef
    refine ⟨rfl, ?_⟩
    walk_at "q"
    exact Rt.now h
  | some y =>
    rw [f_below_eq]; unfold f_below_B fDef
    refine ⟨rfl, ?_⟩
    walk_at "q"
    exact Rt.now h
/-! operations -/
theorem sp_is_key_non {μ : Mu} {P : Po} {X : Xo} (h : P (.bl false) μ) : f_is_key [.non] μ P X := by
  rw [f_is_key_eq]; unfold f_is_key_B fDef
  refine ⟨rfl, ?_⟩
  walk_at "q"
  exact Rt.now h
theorem sp_is_key_int {i : Int} {μ : Mu} {P : Po} {X : Xo} (h : P (.bl false) μ) : f_is_key [.int i] μ P X := by
  rw [f_is_key_eq]; unfold f_is_key_B fDef
  refine ⟨rfl, ?_⟩
  walk_at "q"
  exact Rt.now h
theorem sp_is_key_bl {i : Bool} {μ : Mu} {P : Po} {X : Xo} (h : P (.bl false) μ) : f_is_key [.bl i] μ P X := by
  rw [f_is_key_eq]; unfold f_is_key_B fDef
  refine ⟨rfl, ?_⟩
  walk_at "q"
  exact Rt.now h
theorem sp_is_key_tup {i : List W} {μ : Mu} {P : Po} {X : Xo} (h : P (.bl false) μ) : f_is_key [.tup i] μ P X := by
  rw [f_is_key_eq]; unfold f_is_key_B fDef
  refine ⟨rfl, ?_⟩
  walk_at "q"
  exact Rt.now h
theorem sp_is_key_lst {i : List W} {μ : Mu} {P : Po} {X : Xo} (h : P (.bl false) μ) : f_is_key [.lst i] μ P X := by
  rw [f_is_key_eq]; unfold f_is_key_B fDef
  refine ⟨rfl, ?_⟩
  walk_at "q"
  exact Rt.now h
/-- a plain value: what the tests of values are asked of -/
def pl : W → Bool
  | .non | .bl _ | .int _ | .tup _ | .lst _ => true
  | .str z => decide (z.length ≤ 16000000)
  | _ => false
def keyW : W → Bool
  | .str z => isKeyB z
  | _ => false
theorem sp_key {w : W} {μ : Mu} {P : Po} {X : Xo} (hp : pl w = true) (h : P (.bl (keyW w)) μ) : f_is_key [w] μ P X := by
  cases w with
  | non => exact sp_is_key_non h
  | bl b => exact sp_is_key_bl h
  | int i => exact sp_is_key_int h
  | str z => exact sp_is_key (of_decide_eq_true hp) h
  | tup ws => exact sp_is_key_tup h
  | lst ws => exact sp_is_key_lst h
  | _ => cases hp
def boundW : W → Bool
  | .str z => isKeyB z || decide (z = "")
  | _ => false
theorem sp_bound {w : W} {μ : Mu} {P : Po} {X : Xo} (hp : pl w = true) (h : P (.bl (boundW w)) μ) : f_is_bound [w] μ P X := by
  cases w with
  | str z =>
    rw [f_is_bound_eq]; unfold f_is_bound_B fDef
    refine ⟨rfl, ?_⟩
    walk_at "q"
    refine sp_key hp ?_
    have h : P (.bl (isKeyB z || decide (z = ""))) μ := h
    cases e : keyW (.str z) with
    | true =>
      rw [show isKeyB z = true from e, Bool.true_or] at h
      walk_at "q"
      exact Rt.now h
    | false =>
      rw [show isKeyB z = false from e, Bool.false_or] at h
      walk_at "q"
      exact Rt.now h
  | ref a => cases hp
  | fn a => cases hp
  | exc a b c d => cases hp
  | rol a => cases hp
  | _ =>
    rw [f_is_bound_eq]; unfold f_is_bound_B fDef
    refine ⟨rfl, ?_⟩
    walk_at "q"
    refine sp_key hp ?_
    walk_at "q"
    exact Rt.now h
def signB (c : Nat) : Bool := decide (32 ≤ c ∧ c ≤ 126) && !decide (c = 37)
def printB (z : Str) : Bool := z.cps.toList.all signB
def signW : W → Bool
  | .str ⟨#[c]⟩ => signB c
  | _ => false
theorem l_sp : (" " : Str) = ⟨#[32]⟩ := by decide +kernel
theorem l_ti : ("~" : Str) = ⟨#[126]⟩ := by decide +kernel
theorem sp_printable {z : Str} {μ : Mu} {P : Po} {X : Xo} (h : P (.bl (printB z)) μ) : f_is_printable [.str z] μ P X := by
  rw [f_is_printable_eq]; unfold f_is_printable_B fDef
  refine ⟨rfl, ?_⟩
  walk_at "q"
  have e : printB z = (signs z).all signW := by
    unfold signs printB
    rw [List.all_map]
    rfl
  rw [e] at h
  refine itS_ret (v := .bl false) signW (fun ρ => ∃ x, ρ = [some (.str z), x]) trivial _ ⟨none, rfl⟩ (fun w hw ρ hρ K hy hn => ?_) (fun a ρ hρ => ?_) fun a => ?_
  · obtain ⟨x, rfl⟩ := hρ
    obtain ⟨c, _, rfl⟩ := List.mem_map.mp hw
    have e2 : signW (.str ⟨#[c]⟩) = (decide (32 ≤ c ∧ c ≤ 126) && !decide (c = 37)) := rfl
    have b1 : (!sLt (⟨#[c]⟩ : Str) " ") = decide (32 ≤ c) := by
      rw [l_sp, slt_one]
      by_cases q : c < 32 <;> simp [q] <;> omega
    have b2 : (!sLt "~" (⟨#[c]⟩ : Str)) = decide (c ≤ 126) := by
      rw [l_ti, slt_one]
      by_cases q : 126 < c <;> simp [q] <;> omega
    rw [e2] at hy hn
    walk_at "q"
    rw [b1]
    refine q_ifP (fun c1 => ?_) fun c1 => ?_
    · walk_at "q"
      rw [b2]
      refine q_ifN (fun c2 => ?_) fun c2 => ?_
      · walk_at "q"
        refine q_ifP (fun c3 => ?_) fun c3 => ?_
        · have c3 : (c : Int) = 37 := c3
          walk_at "q"
          exact hn (by rw [decide_eq_true (show c = 37 by omega)]; simp)
        · have c3 : ¬(c : Int) = 37 := c3
          walk_at "q"
          exact hy (by rw [decide_eq_true ⟨c1, c2⟩, decide_eq_false (show ¬c = 37 by omega)]; rfl) _ ⟨_, rfl⟩
      · walk_at "q"
        exact hn (by rw [decide_eq_false (fun z => c2 z.2)]; rfl)
    · walk_at "q"
      exact hn (by rw [decide_eq_false (fun z => c1 z.1)]; rfl)
  · rw [a] at h
    obtain ⟨x, rfl⟩ := hρ
    exact Rt.now h
  · rw [a] at h
    exact Rt.now h
def valB : W → Bool
  | .str z => printB z && decide (z.length ≤ 40)
  | _ => false
theorem sp_val {w : W} {μ : Mu} {P : Po} {X : Xo} (hp : pl w = true) (h : P (.bl (valB w)) μ) : f_is_value [w] μ P X := by
  cases w with
  | str z =>
    have hz : z.length ≤ 16000000 := of_decide_eq_true hp
    rw [f_is_value_eq]; unfold f_is_value_B fDef
    refine ⟨rfl, ?_⟩
    walk_at "q"
    refine sp_printable ?_
    have h : P (.bl (printB z && decide (z.length ≤ 40))) μ := h
    cases e : printB z with
    | true =>
      rw [e, Bool.true_and] at h
      walk_at "q"
      rw [show decide ((z.length : Int) ≤ 40) = decide (z.length ≤ 40) from decide_eq_decide.mpr (by omega)]
      exact Rt.now h
    | false =>
      rw [e, Bool.false_and] at h
      walk_at "q"
      exact Rt.now h
  | ref a => cases hp
  | fn a => cases hp
  | exc a b c d => cases hp
  | rol a => cases hp
  | _ =>
    rw [f_is_value_eq]; unfold f_is_value_B fDef
    refine ⟨rfl, ?_⟩
    walk_at "q"
    rw [f_is_printable_eq]; unfold f_is_printable_B fDef
    refine ⟨rfl, ?_⟩
    walk_at "q"
    refine Rt.now ?_
    walk_at "q"
    exact Rt.now h
def intB (w : W) (a b : Int) : Bool := match w with
  | .int i => decide (a ≤ i) && decide (i ≤ b)
  | _ => false
theorem sp_int {w : W} {a b : Int} {μ : Mu} {P : Po} {X : Xo} (hp : pl w = true) (h : P (.bl (intB w a b)) μ) : f_is_integer [w, .int a, .int b] μ P X := by
  cases w with
  | int i => exact sp_is_integer h
  | ref a => cases hp
  | fn a => cases hp
  | exc a b c d => cases hp
  | rol a => cases hp
  | _ =>
    rw [f_is_integer_eq]; unfold f_is_integer_B fDef
    refine ⟨rfl, ?_⟩
    walk_at "q"
    exact Rt.now h
/-- an operation, told of the parts of a tuple -/
def opB : List W → Bool
  | [.str k, a] => (decide (k = "get") || decide (k = "drop")) && keyW a
  | [.str k, a, b] => (decide (k = "put") && (keyW a && valB b)) || (decide (k = "page") && (boundW a && intB b 1 50))
  | [.str k, a, b, c] => decide (k = "swap") && (keyW a && (valB b && valB c))
  | _ => false
theorem sp__is_key_alone {ws : List W} {μ : Mu} {P : Po} {X : Xo} (hp : ∀ w ∈ ws, pl w = true) (h : P (.bl (match ws with
  | [_, a] => keyW a
  | _ => false)) μ) : f__is_key_alone [.tup ws] μ P X := by
  rw [f__is_key_alone_eq]; unfold f__is_key_alone_B fDef
  refine ⟨rfl, ?_⟩
  match ws, hp, h with
  | [x, a], hp, h =>
    walk_at "q"
    refine q_t rfl ?_
    walk_at "q"
    refine sp_key (hp a (by simp)) ?_
    exact Rt.now h
  | [], hp, h =>
    walk_at "q"
    exact Rt.now h
  | [x], hp, h =>
    walk_at "q"
    refine q_f rfl ?_
    exact Rt.now h
  | x :: y :: z :: r, hp, h =>
    walk_at "q"
    refine q_f (decide_eq_false (by simp only [List.length_cons]; omega)) ?_
    exact Rt.now h
theorem sp__is_put {ws : List W} {μ : Mu} {P : Po} {X : Xo} (hp : ∀ w ∈ ws, pl w = true) (h : P (.bl (match ws with
  | [_, a, b] => keyW a && valB b
  | _ => false)) μ) : f__is_put [.tup ws] μ P X := by
  rw [f__is_put_eq]; unfold f__is_put_B fDef
  refine ⟨rfl, ?_⟩
  match ws, hp, h with
  | [x, a, b], hp, h =>
    walk_at "q"
    refine q_t rfl ?_
    walk_at "q"
    refine sp_key (hp a (by simp)) ?_
    have h : P (.bl (keyW a && valB b)) μ := h
    cases e : keyW a with
    | true =>
      rw [e, Bool.true_and] at h
      walk_at "q"
      refine sp_val (hp b (by simp)) ?_
      exact Rt.now h
    | false =>
      rw [e, Bool.false_and] at h
      walk_at "q"
      exact Rt.now h
  | [], hp, h =>
    walk_at "q"
    exact Rt.now h
  | [x], hp, h =>
    walk_at "q"
    refine q_f rfl ?_
    exact Rt.now h
  | [x, y], hp, h =>
    walk_at "q"
    refine q_f rfl ?_
    exact Rt.now h
  | x :: y :: z :: u :: r, hp, h =>
    walk_at "q"
    refine q_f (decide_eq_false (by simp only [List.length_cons]; omega)) ?_
    exact Rt.now h
theorem sp__is_swap {ws : List W} {μ : Mu} {P : Po} {X : Xo} (hp : ∀ w ∈ ws, pl w = true) (h : P (.bl (match ws with
  | [_, a, b, c] => keyW a && (valB b && valB c)
  | _ => false)) μ) : f__is_swap [.tup ws] μ P X := by
  rw [f__is_swap_eq]; unfold f__is_swap_B fDef
  refine ⟨rfl, ?_⟩
  match ws, hp, h with
  | [x, a, b, c], hp, h =>
    walk_at "q"
    refine q_t rfl ?_
    walk_at "q"
    refine sp_key (hp a (by simp)) ?_
    have h : P (.bl (keyW a && (valB b && valB c))) μ := h
    cases e : keyW a with
    | true =>
      rw [e, Bool.true_and] at h
      walk_at "q"
      refine sp_val (hp b (by simp)) ?_
      cases e2 : valB b with
      | true =>
        rw [e2, Bool.true_and] at h
        walk_at "q"
        refine sp_val (hp c (by simp)) ?_
        exact Rt.now h
      | false =>
        rw [e2, Bool.false_and] at h
        walk_at "q"
        exact Rt.now h
    | false =>
      rw [e, Bool.false_and] at h
      walk_at "q"
      exact Rt.now h
  | [], hp, h =>
    walk_at "q"
    exact Rt.now h
  | [x], hp, h =>
    walk_at "q"
    refine q_f rfl ?_
    exact Rt.now h
  | [x, y], hp, h =>
    walk_at "q"
    refine q_f rfl ?_
    exact Rt.now h
  | [x, y, z], hp, h =>
    walk_at "q"
    refine q_f rfl ?_
    exact Rt.now h
  | x :: y :: z :: u :: v :: r, hp, h =>
    walk_at "q"
    refine q_f (decide_eq_false (by simp only [List.length_cons]; omega)) ?_
    exact Rt.now h
theorem sp__is_page {ws : List W} {μ : Mu} {P : Po} {X : Xo} (hp : ∀ w ∈ ws, pl w = true) (h : P (.bl (match ws with
  | [_, a, b] => boundW a && intB b 1 50
  | _ => false)) μ) : f__is_page [.tup ws] μ P X := by
  rw [f__is_page_eq]; unfold f__is_page_B fDef
  refine ⟨rfl, ?_⟩
  match ws, hp, h with
  | [x, a, b], hp, h =>
    walk_at "q"
    refine q_t rfl ?_
    walk_at "q"
    refine sp_bound (hp a (by simp)) ?_
    have h : P (.bl (boundW a && intB b 1 50)) μ := h
    cases e : boundW a with
    | true =>
      rw [e, Bool.true_and] at h
      walk_at "q"
      refine sp_int (hp b (by simp)) ?_
      exact Rt.now h
    | false =>
      rw [e, Bool.false_and] at h
      walk_at "q"
      exact Rt.now h
  | [], hp, h =>
    walk_at "q"
    exact Rt.now h
  | [x], hp, h =>
    walk_at "q"
    refine q_f rfl ?_
    exact Rt.now h
  | [x, y], hp, h =>
    walk_at "q"
    refine q_f rfl ?_
    exact Rt.now h
  | x :: y :: z :: u :: r, hp, h =>
    walk_at "q"
    refine q_f (decide_eq_false (by simp only [List.length_cons]; omega)) ?_
    exact Rt.now h
theorem opB_kind {k : Str} {r : List W} (h : k ∉ (["get", "put", "drop", "swap", "page"] : List Str)) : opB (.str k :: r) = false := by
  simp only [List.mem_cons, List.not_mem_nil, or_false, not_or] at h
  obtain ⟨h1, h2, h3, h4, h5⟩ := h
  match r with
  | [] => rfl
  | [a] =>
    show ((decide (k = "get") || decide (k = "drop")) && keyW a) = false
    rw [decide_eq_false h1, decide_eq_false h3]
    rfl
  | [a, b] =>
    show ((decide (k = "put") && (keyW a && valB b)) || (decide (k = "page") && (boundW a && intB b 1 50))) = false
    rw [decide_eq_false h2, decide_eq_false h5]
    rfl
  | [a, b, c] =>
    show (decide (k = "swap") && (keyW a && (valB b && valB c))) = false
    rw [decide_eq_false h4]
    rfl
  | _ :: _ :: _ :: _ :: _ => rfl
theorem sp_is_op {k : Str} {r : List W} {μ : Mu} {P : Po} {X : Xo} (hp : ∀ w ∈ r, pl w = true) (hk : k.length ≤ 16000000) (h : P (.bl (opB (.str k :: r))) μ) : f_is_operation [.tup (.str k :: r)] μ P X := by
  have hp2 : ∀ w ∈ W.str k :: r, pl w = true := fun w hw => by
    rcases List.mem_cons.mp hw with rfl | hw
    · exact decide_eq_true hk
    · exact hp w hw
  rw [f_is_operation_eq]; unfold f_is_operation_B fDef
  refine ⟨rfl, ?_⟩
  walk_at "q"
  refine sp_kind_tup ?_
  walk_at "q"
  by_cases hm : k ∈ (["get", "put", "drop", "swap", "page"] : List Str)
  · simp only [List.mem_cons, List.not_mem_nil, or_false] at hm
    rcases hm with rfl | rfl | rfl | rfl | rfl
    · walk_at "q"
      refine q_cl (f := f__is_key_alone) (by walk_at "lk") ?_
      walk_at "q"
      refine sp__is_key_alone hp2 ?_
      refine Rt.now ?_
      match r, h with
      | [], h => exact h
      | [a], h => exact h
      | [a, b], h => exact h
      | [a, b, c], h => exact h
      | _ :: _ :: _ :: _ :: _, h => exact h
    · walk_at "q"
      refine q_cl (f := f__is_put) (by walk_at "lk") ?_
      walk_at "q"
      refine sp__is_put hp2 ?_
      refine Rt.now ?_
      match r, h with
      | [], h => exact h
      | [a], h => exact h
      | [a, b], h =>
        have h : P (.bl ((decide (("put" : Str) = "put") && (keyW a && valB b)) || (decide (("put" : Str) = "page") && (boundW a && intB b 1 50)))) μ := h
        rw [decide_eq_true rfl, show decide (("put" : Str) = "page") = false by decide +kernel, Bool.true_and, Bool.false_and, Bool.or_false] at h
        exact h
      | [a, b, c], h => exact h
      | _ :: _ :: _ :: _ :: _, h => exact h
    · walk_at "q"
      refine q_cl (f := f__is_key_alone) (by walk_at "lk") ?_
      walk_at "q"
      refine sp__is_key_alone hp2 ?_
      refine Rt.now ?_
      match r, h with
      | [], h => exact h
      | [a], h => exact h
      | [a, b], h => exact h
      | [a, b, c], h => exact h
      | _ :: _ :: _ :: _ :: _, h => exact h
    · walk_at "q"
      refine q_cl (f := f__is_swap) (by walk_at "lk") ?_
      walk_at "q"
      refine sp__is_swap hp2 ?_
      refine Rt.now ?_
      match r, h with
      | [], h => exact h
      | [a], h => exact h
      | [a, b], h => exact h
      | [a, b, c], h => exact h
      | _ :: _ :: _ :: _ :: _, h => exact h
    · walk_at "q"
      refine q_cl (f := f__is_page) (by walk_at "lk") ?_
      walk_at "q"
      refine sp__is_page hp2 ?_
      refine Rt.now ?_
      match r, h with
      | [], h => exact h
      | [a], h => exact h
      | [a, b], h =>
        have h : P (.bl ((decide (("page" : Str) = "put") && (keyW a && valB b)) || (decide (("page" : Str) = "page") && (boundW a && intB b 1 50)))) μ := h
        rw [decide_eq_true (rfl : ("page" : Str) = "page"), show decide (("page" : Str) = "put") = false by decide +kernel, Bool.true_and, Bool.false_and, Bool.false_or] at h
        exact h
      | [a, b, c], h => exact h
      | _ :: _ :: _ :: _ :: _, h => exact h
  · rw [opB_kind hm] at h
    refine q_t (by
      rw [show decide (k ∈ ([("get", W.fn "_is_key_alone"), ("put", .fn "_is_put"), ("drop", .fn "_is_key_alone"), ("swap", .fn "_is_swap"), ("page", .fn "_is_page")] : List (Str × W)).map (·.1)) = false from decide_eq_false hm]
      rfl) ?_
    walk_at "q"
    exact Rt.now h
end Q
namespace Mspan
/-! lists of spans over numbered bounds: fusing, the parts in and outside of a range, filling -/
abbrev Sp (β : Type) : Type := Nat × Nat × β
section
variable {β : Type} [DecidableEq β]
/-- the last is the first: neighbours of the same worth as one -/
def step (r : List (Sp β)) (x : Sp β) : List (Sp β) := match r with
  | l :: t => if l.2.1 = x.1 ∧ l.2.2 = x.2.2 then (l.1, x.2.1, x.2.2) :: t else x :: l :: t
  | [] => [x]
def fuse (xs : List (Sp β)) : List (Sp β) := (xs.foldl step []).reverse
def Pos (S : List (Sp β)) : Prop := ∀ x ∈ S, x.1 < x.2.1
def Asc (S : List (Sp β)) : Prop := S.Pairwise (fun x y => x.2.1 ≤ y.1)
def Nrm (S : List (Sp β)) : Prop := S.Pairwise (fun x y => x.2.1 ≤ y.1 ∧ ¬ (x.2.1 = y.1 ∧ x.2.2 = y.2.2))
/-- the worth w stands at k -/
def Has (S : List (Sp β)) (k : Nat) (w : β) : Prop := ∃ x ∈ S, x.1 ≤ k ∧ k < x.2.1 ∧ x.2.2 = w
theorem has_cons {x : Sp β} {S : List (Sp β)} {k : Nat} {w : β} : Has (x :: S) k w ↔ (x.1 ≤ k ∧ k < x.2.1 ∧ x.2.2 = w) ∨ Has S k w := by
  constructor
  · rintro ⟨y, hy, h⟩
    rcases List.mem_cons.mp hy with rfl | hy
    · exact .inl h
    · exact .inr ⟨y, hy, h⟩
  · rintro (h | ⟨y, hy, h⟩)
    · exact ⟨x, List.mem_cons_self, h⟩
    · exact ⟨y, List.mem_cons_of_mem _ hy, h⟩
theorem has_nil {k : Nat} {w : β} : ¬ Has ([] : List (Sp β)) k w := fun ⟨_, h, _⟩ => by cases h
theorem has_append {S T : List (Sp β)} {k : Nat} {w : β} : Has (S ++ T) k w ↔ Has S k w ∨ Has T k w := by
  constructor
  · rintro ⟨y, hy, h⟩
    rcases List.mem_append.mp hy with hy | hy
    · exact .inl ⟨y, hy, h⟩
    · exact .inr ⟨y, hy, h⟩
  · rintro (⟨y, hy, h⟩ | ⟨y, hy, h⟩)
    · exact ⟨y, List.mem_append_left _ hy, h⟩
    · exact ⟨y, List.mem_append_right _ hy, h⟩
theorem has_perm {S T : List (Sp β)} (h : S.Perm T) {k : Nat} {w : β} : Has S k w ↔ Has T k w :=
  ⟨fun ⟨y, hy, z⟩ => ⟨y, h.mem_iff.mp hy, z⟩, fun ⟨y, hy, z⟩ => ⟨y, h.mem_iff.mpr hy, z⟩⟩
theorem has_rev {S : List (Sp β)} {k : Nat} {w : β} : Has S.reverse k w ↔ Has S k w := has_perm (List.reverse_perm S)
/-! what fusing makes -/
/-- the made ones, the last first, all before a place -/
structure Made (r : List (Sp β)) : Prop where
  pos : Pos r
  nrm : r.Pairwise (fun y x => x.2.1 ≤ y.1 ∧ ¬ (x.2.1 = y.1 ∧ x.2.2 = y.2.2))
theorem step_made {r : List (Sp β)} {x : Sp β} (h : Made r) (hx : x.1 < x.2.1) (hb : ∀ y ∈ r, y.2.1 ≤ x.1) : Made (step r x) ∧ (∀ k w, Has (step r x) k w ↔ Has r k w ∨ (x.1 ≤ k ∧ k < x.2.1 ∧ x.2.2 = w)) ∧ ∀ y ∈ step r x, y.2.1 ≤ x.2.1 := by
  unfold step
  split
  · rename_i l t
    obtain ⟨hp, hn⟩ := h
    obtain ⟨hn1, hn2⟩ := List.pairwise_cons.mp hn
    have hl := hp l List.mem_cons_self
    have hlx := hb l List.mem_cons_self
    split
    · rename_i c
      refine ⟨⟨fun y hy => ?_, List.pairwise_cons.mpr ⟨fun y hy => ?_, hn2⟩⟩, fun k w => ?_, fun y hy => ?_⟩
      · rcases List.mem_cons.mp hy with rfl | hy
        · show l.1 < x.2.1
          omega
        · exact hp y (List.mem_cons_of_mem _ hy)
      · have q := hn1 y hy
        refine ⟨q.1, fun z => q.2 ⟨z.1, ?_⟩⟩
        rw [c.2]
        exact z.2
      · rw [has_cons, has_cons]
        constructor
        · rintro (⟨a, b, d⟩ | h)
          · by_cases e : k < l.2.1
            · exact .inl (.inl ⟨a, e, c.2.trans d⟩)
            · exact .inr ⟨by have := c.1; omega, b, d⟩
          · exact .inl (.inr h)
        · rintro ((⟨a, b, d⟩ | h) | ⟨a, b, d⟩)
          · exact .inl ⟨a, by show k < x.2.1; omega, c.2.symm.trans d⟩
          · exact .inr h
          · exact .inl ⟨by show l.1 ≤ k; omega, b, d⟩
      · rcases List.mem_cons.mp hy with rfl | hy
        · exact Nat.le_refl _
        · have := hb y (List.mem_cons_of_mem _ hy)
          omega
    · rename_i c
      refine ⟨⟨fun y hy => ?_, List.pairwise_cons.mpr ⟨fun y hy => ?_, hn⟩⟩, fun k w => ?_, fun y hy => ?_⟩
      · rcases List.mem_cons.mp hy with rfl | hy
        · exact hx
        · exact hp y hy
      · refine ⟨hb y hy, ?_⟩
        rcases List.mem_cons.mp hy with rfl | hy
        · exact c
        · have q := (hn1 y hy).1
          intro z
          omega
      · rw [has_cons]
        constructor
        · rintro (h | h)
          · exact .inr h
          · exact .inl h
        · rintro (h | h)
          · exact .inr h
          · exact .inl h
      · rcases List.mem_cons.mp hy with rfl | hy
        · exact Nat.le_refl _
        · have := hb y hy
          omega
  · refine ⟨⟨fun y hy => ?_, List.pairwise_cons.mpr ⟨fun y hy => (by cases hy), .nil⟩⟩, fun k w => ?_, fun y hy => ?_⟩
    · rcases List.mem_cons.mp hy with rfl | hy
      · exact hx
      · cases hy
    · rw [has_cons]
      exact ⟨fun h => h.elim .inr .inl, fun h => h.elim .inr .inl⟩
    · rcases List.mem_cons.mp hy with rfl | hy
      · exact Nat.le_refl _
      · cases hy
theorem fold_made : ∀ {xs r : List (Sp β)}, Made r → Pos xs → Asc xs → (∀ y ∈ r, ∀ x ∈ xs, y.2.1 ≤ x.1) → Made (xs.foldl step r) ∧ ∀ k w, Has (xs.foldl step r) k w ↔ Has r k w ∨ Has xs k w
  | [], r, h, _, _, _ => ⟨h, fun k w => ⟨.inl, fun h => h.elim id fun z => (has_nil z).elim⟩⟩
  | x :: xs, r, h, hp, ha, hb => by
    obtain ⟨a1, a2⟩ := List.pairwise_cons.mp ha
    obtain ⟨s1, s2, s3⟩ := step_made h (hp x List.mem_cons_self) fun y hy => hb y hy x List.mem_cons_self
    obtain ⟨f1, f2⟩ := fold_made (xs := xs) s1 (fun y hy => hp y (List.mem_cons_of_mem _ hy)) a2 fun y hy z hz => Nat.le_trans (s3 y hy) (a1 z hz)
    refine ⟨f1, fun k w => ?_⟩
    rw [List.foldl_cons, f2, s2, has_cons]
    constructor
    · rintro ((h | h) | h)
      · exact .inl h
      · exact .inr (.inl h)
      · exact .inr (.inr h)
    · rintro (h | h | h)
      · exact .inl (.inl h)
      · exact .inl (.inr h)
      · exact .inr h
theorem fuse_ok {xs : List (Sp β)} (hp : Pos xs) (ha : Asc xs) : Pos (fuse xs) ∧ Nrm (fuse xs) ∧ ∀ k w, Has (fuse xs) k w ↔ Has xs k w := by
  obtain ⟨m, h⟩ := fold_made (r := []) ⟨fun _ z => (by cases z), .nil⟩ hp ha (fun _ z => by cases z)
  refine ⟨fun x hx => m.pos x (List.mem_reverse.mp hx), List.pairwise_reverse.mpr m.nrm, fun k w => ?_⟩
  unfold fuse
  rw [has_rev, h]
  exact ⟨fun z => z.elim (fun z => (has_nil z).elim) id, .inr⟩
/-- what is fused stands -/
theorem fold_nrm : ∀ {xs r : List (Sp β)}, Nrm (r.reverse ++ xs) → xs.foldl step r = xs.reverse ++ r
  | [], r, _ => rfl
  | x :: xs, r, h => by
    have e : step r x = x :: r := by
      unfold step
      split
      · rename_i l t
        have q := List.pairwise_append.mp h
        have z := q.2.2 l (List.mem_reverse.mpr List.mem_cons_self) x List.mem_cons_self
        rw [if_neg z.2]
      · rfl
    rw [List.foldl_cons, e, fold_nrm (by simpa using h), List.reverse_cons, List.append_assoc]
    rfl
theorem fuse_nrm {xs : List (Sp β)} (h : Nrm xs) : fuse xs = xs := by
  unfold fuse
  rw [fold_nrm (by simpa using h)]
  simp
/-! cell by cell -/
def cells (x : Sp β) : List (Sp β) := (List.range' x.1 (x.2.1 - x.1)).map fun k => (k, k + 1, x.2.2)
theorem step_split {r : List (Sp β)} {s m e : Nat} {w : β} : step (step r (s, m, w)) (m, e, w) = step r (s, e, w) := by
  cases r with
  | nil => simp [step]
  | cons l t =>
    by_cases c : l.2.1 = s ∧ l.2.2 = w
    · simp [step, c]
    · simp [step, c]
theorem fold_cells {w : β} : ∀ (n s : Nat) (r : List (Sp β)), ((List.range' s (n + 1)).map fun k => ((k, k + 1, w) : Sp β)).foldl step r = step r (s, s + (n + 1), w)
  | 0, s, r => by simp [List.range']
  | n + 1, s, r => by
    rw [List.range'_succ, List.map_cons, List.foldl_cons, fold_cells n (s + 1), step_split]
    congr 3
    omega
theorem fold_flat : ∀ {xs r : List (Sp β)}, Pos xs → (xs.flatMap cells).foldl step r = xs.foldl step r
  | [], r, _ => rfl
  | x :: xs, r, h => by
    have hx := h x List.mem_cons_self
    obtain ⟨n, hn⟩ : ∃ n, x.2.1 - x.1 = n + 1 := ⟨x.2.1 - x.1 - 1, by omega⟩
    rw [List.flatMap_cons, List.foldl_append, List.foldl_cons]
    have e : (cells x).foldl step r = step r x := by
      unfold cells
      rw [hn, fold_cells]
      have e2 : x.1 + (n + 1) = x.2.1 := by omega
      rw [e2]
    rw [e]
    exact fold_flat fun y hy => h y (List.mem_cons_of_mem _ hy)
theorem mem_cells {x y : Sp β} : y ∈ cells x ↔ x.1 ≤ y.1 ∧ y.1 < x.2.1 ∧ y.2.1 = y.1 + 1 ∧ y.2.2 = x.2.2 := by
  unfold cells
  rw [List.mem_map]
  constructor
  · rintro ⟨k, hk, rfl⟩
    rw [List.mem_range'_1] at hk
    exact ⟨hk.1, by show k < x.2.1; omega, rfl, rfl⟩
  · rintro ⟨h1, h2, h3, h4⟩
    refine ⟨y.1, by rw [List.mem_range'_1]; omega, ?_⟩
    obtain ⟨a, b, c⟩ := y
    simp only at h3 h4 ⊢
    rw [h3, h4]
theorem mem_flat {xs : List (Sp β)} {y : Sp β} : y ∈ xs.flatMap cells ↔ y.2.1 = y.1 + 1 ∧ Has xs y.1 y.2.2 := by
  rw [List.mem_flatMap]
  constructor
  · rintro ⟨x, hx, h⟩
    obtain ⟨h1, h2, h3, h4⟩ := mem_cells.mp h
    exact ⟨h3, x, hx, h1, h2, h4.symm⟩
  · rintro ⟨h3, x, hx, h1, h2, h4⟩
    exact ⟨x, hx, mem_cells.mpr ⟨h1, h2, h3, h4.symm⟩⟩
theorem flat_lt : ∀ {xs : List (Sp β)}, Asc xs → (xs.flatMap cells).Pairwise (fun x y => x.1 < y.1)
  | [], _ => .nil
  | x :: xs, h => by
    obtain ⟨h1, h2⟩ := List.pairwise_cons.mp h
    rw [List.flatMap_cons, List.pairwise_append]
    refine ⟨?_, flat_lt h2, fun y hy z hz => ?_⟩
    · unfold cells
      rw [List.pairwise_map]
      exact List.pairwise_lt_range'
    · obtain ⟨a, b, _, _⟩ := mem_cells.mp hy
      obtain ⟨_, u, hu, c, _, _⟩ := mem_flat.mp hz
      have := h1 u hu
      omega
theorem lt_ext : ∀ {xs ys : List (Sp β)}, xs.Pairwise (fun x y => x.1 < y.1) → ys.Pairwise (fun x y => x.1 < y.1) → (∀ z, z ∈ xs ↔ z ∈ ys) → xs = ys
  | [], [], _, _, _ => rfl
  | [], y :: ys, _, _, h => by
    have := (h y).mpr List.mem_cons_self
    cases this
  | x :: xs, [], _, _, h => by
    have := (h x).mp List.mem_cons_self
    cases this
  | x :: xs, y :: ys, hx, hy, h => by
    obtain ⟨x1, x2⟩ := List.pairwise_cons.mp hx
    obtain ⟨y1, y2⟩ := List.pairwise_cons.mp hy
    have e : x = y := by
      rcases List.mem_cons.mp ((h x).mp List.mem_cons_self) with e | e
      · exact e
      · rcases List.mem_cons.mp ((h y).mpr List.mem_cons_self) with f | f
        · exact f.symm
        · have a := y1 x e
          have b := x1 y f
          omega
    subst e
    rw [lt_ext x2 y2 fun z => ?_]
    constructor
    · intro hz
      rcases List.mem_cons.mp ((h z).mp (List.mem_cons_of_mem _ hz)) with rfl | q
      · have := x1 z hz
        omega
      · exact q
    · intro hz
      rcases List.mem_cons.mp ((h z).mpr (List.mem_cons_of_mem _ hz)) with rfl | q
      · have := y1 z hz
        omega
      · exact q
theorem Nrm.asc {S : List (Sp β)} (h : Nrm S) : Asc S := h.imp fun z => z.1
/-- what is fused is told by what stands at each place -/
theorem nrm_ext {S T : List (Sp β)} (hS : Nrm S) (pS : Pos S) (hT : Nrm T) (pT : Pos T) (h : ∀ k w, Has S k w ↔ Has T k w) : S = T := by
  have e : S.flatMap cells = T.flatMap cells := lt_ext (flat_lt hS.asc) (flat_lt hT.asc) fun z => by rw [mem_flat, mem_flat, h]
  have a : fuse (S.flatMap cells) = fuse S := by
    unfold fuse
    rw [fold_flat pS]
  have b : fuse (T.flatMap cells) = fuse T := by
    unfold fuse
    rw [fold_flat pT]
  rw [← fuse_nrm hS, ← fuse_nrm hT, ← a, ← b, e]
/-! ### the parts in and outside of a range -/
def inS (lo hi : Nat) (x : Sp β) : List (Sp β) := if x.1 < hi ∧ lo < x.2.1 then [(max x.1 lo, min x.2.1 hi, x.2.2)] else []
def outS (lo hi : Nat) (x : Sp β) : List (Sp β) := (if x.1 < lo then [(x.1, min x.2.1 lo, x.2.2)] else []) ++ (if hi < x.2.1 then [(max x.1 hi, x.2.1, x.2.2)] else [])
theorem mem_in {lo hi : Nat} {x y : Sp β} : y ∈ inS lo hi x ↔ (x.1 < hi ∧ lo < x.2.1) ∧ y = (max x.1 lo, min x.2.1 hi, x.2.2) := by
  unfold inS
  split
  · rename_i c
    rw [List.mem_singleton]
    exact ⟨fun h => ⟨c, h⟩, fun h => h.2⟩
  · rename_i c
    exact ⟨fun h => (by cases h), fun h => absurd h.1 c⟩
theorem mem_out {lo hi : Nat} {x y : Sp β} : y ∈ outS lo hi x ↔ (x.1 < lo ∧ y = (x.1, min x.2.1 lo, x.2.2)) ∨ (hi < x.2.1 ∧ y = (max x.1 hi, x.2.1, x.2.2)) := by
  unfold outS
  rw [List.mem_append]
  constructor
  · rintro (h | h)
    · split at h
      · rename_i c
        exact .inl ⟨c, List.mem_singleton.mp h⟩
      · cases h
    · split at h
      · rename_i c
        exact .inr ⟨c, List.mem_singleton.mp h⟩
      · cases h
  · rintro (⟨c, rfl⟩ | ⟨c, rfl⟩)
    · left
      rw [if_pos c]
      exact List.mem_singleton.mpr rfl
    · right
      rw [if_pos c]
      exact List.mem_singleton.mpr rfl
variable {lo hi : Nat} {S : List (Sp β)}
theorem has_in {k : Nat} {w : β} : Has (S.flatMap (inS lo hi)) k w ↔ Has S k w ∧ lo ≤ k ∧ k < hi := by
  constructor
  · rintro ⟨y, hy, h1, h2, h3⟩
    obtain ⟨x, hx, h⟩ := List.mem_flatMap.mp hy
    obtain ⟨c, rfl⟩ := mem_in.mp h
    simp only at h1 h2 h3
    exact ⟨⟨x, hx, by omega, by omega, h3⟩, by omega, by omega⟩
  · rintro ⟨⟨x, hx, h1, h2, h3⟩, h4, h5⟩
    exact ⟨_, List.mem_flatMap.mpr ⟨x, hx, mem_in.mpr ⟨⟨by omega, by omega⟩, rfl⟩⟩, by show max x.1 lo ≤ k; omega, by show k < min x.2.1 hi; omega, h3⟩
theorem has_out {k : Nat} {w : β} : Has (S.flatMap (outS lo hi)) k w ↔ Has S k w ∧ (k < lo ∨ hi ≤ k) := by
  constructor
  · rintro ⟨y, hy, h1, h2, h3⟩
    obtain ⟨x, hx, h⟩ := List.mem_flatMap.mp hy
    rcases mem_out.mp h with ⟨c, rfl⟩ | ⟨c, rfl⟩
    · simp only at h1 h2 h3
      exact ⟨⟨x, hx, by omega, by omega, h3⟩, by omega⟩
    · simp only at h1 h2 h3
      exact ⟨⟨x, hx, by omega, by omega, h3⟩, by omega⟩
  · rintro ⟨⟨x, hx, h1, h2, h3⟩, h4 | h4⟩
    · exact ⟨_, List.mem_flatMap.mpr ⟨x, hx, mem_out.mpr (.inl ⟨by omega, rfl⟩)⟩, h1, by show k < min x.2.1 lo; omega, h3⟩
    · exact ⟨_, List.mem_flatMap.mpr ⟨x, hx, mem_out.mpr (.inr ⟨by omega, rfl⟩)⟩, by show max x.1 hi ≤ k; omega, h2, h3⟩
theorem pos_in (hlh : lo < hi) (h : Pos S) : Pos (S.flatMap (inS lo hi)) := fun y hy => by
  obtain ⟨x, hx, h'⟩ := List.mem_flatMap.mp hy
  obtain ⟨c, rfl⟩ := mem_in.mp h'
  have := h x hx
  show max x.1 lo < min x.2.1 hi
  omega
theorem pos_out (h : Pos S) : Pos (S.flatMap (outS lo hi)) := fun y hy => by
  obtain ⟨x, hx, h'⟩ := List.mem_flatMap.mp hy
  have := h x hx
  rcases mem_out.mp h' with ⟨c, rfl⟩ | ⟨c, rfl⟩
  · show x.1 < min x.2.1 lo
    omega
  · show max x.1 hi < x.2.1
    omega
theorem asc_in : ∀ {S : List (Sp β)}, Asc S → Asc (S.flatMap (inS lo hi))
  | [], _ => .nil
  | x :: S, h => by
    obtain ⟨h1, h2⟩ := List.pairwise_cons.mp h
    rw [List.flatMap_cons]
    refine List.pairwise_append.mpr ⟨?_, asc_in h2, fun y hy z hz => ?_⟩
    · unfold inS
      split
      · exact List.pairwise_singleton _ _
      · exact .nil
    · obtain ⟨c, rfl⟩ := mem_in.mp hy
      obtain ⟨u, hu, h'⟩ := List.mem_flatMap.mp hz
      obtain ⟨d, rfl⟩ := mem_in.mp h'
      have := h1 u hu
      show min x.2.1 hi ≤ max u.1 lo
      omega
theorem asc_out (hlh : lo ≤ hi) : ∀ {S : List (Sp β)}, Asc S → Asc (S.flatMap (outS lo hi))
  | [], _ => .nil
  | x :: S, h => by
    obtain ⟨h1, h2⟩ := List.pairwise_cons.mp h
    rw [List.flatMap_cons]
    refine List.pairwise_append.mpr ⟨?_, asc_out hlh h2, fun y hy z hz => ?_⟩
    · unfold outS
      refine List.pairwise_append.mpr ⟨?_, ?_, fun y hy z hz => ?_⟩
      · split
        · exact List.pairwise_singleton _ _
        · exact .nil
      · split
        · exact List.pairwise_singleton _ _
        · exact .nil
      · split at hy
        · split at hz
          · rw [List.mem_singleton.mp hy, List.mem_singleton.mp hz]
            show min x.2.1 lo ≤ max x.1 hi
            omega
          · cases hz
        · cases hy
    · obtain ⟨u, hu, h'⟩ := List.mem_flatMap.mp hz
      have := h1 u hu
      rcases mem_out.mp hy with ⟨c, rfl⟩ | ⟨c, rfl⟩ <;> rcases mem_out.mp h' with ⟨d, rfl⟩ | ⟨d, rfl⟩
      · show min x.2.1 lo ≤ u.1
        omega
      · show min x.2.1 lo ≤ max u.1 hi
        omega
      · show x.2.1 ≤ u.1
        omega
      · show x.2.1 ≤ max u.1 hi
        omega
/-- all lie in the range -/
def InR (lo hi : Nat) (S : List (Sp β)) : Prop := ∀ x ∈ S, lo ≤ x.1 ∧ x.2.1 ≤ hi
def OutR (lo hi : Nat) (S : List (Sp β)) : Prop := ∀ x ∈ S, x.2.1 ≤ lo ∨ hi ≤ x.1
theorem inR_in : InR lo hi (S.flatMap (inS lo hi)) := fun y hy => by
  obtain ⟨x, hx, h'⟩ := List.mem_flatMap.mp hy
  obtain ⟨c, rfl⟩ := mem_in.mp h'
  exact ⟨by show lo ≤ max x.1 lo; omega, by show min x.2.1 hi ≤ hi; omega⟩
theorem outR_out : OutR lo hi (S.flatMap (outS lo hi)) := fun y hy => by
  obtain ⟨x, hx, h'⟩ := List.mem_flatMap.mp hy
  rcases mem_out.mp h' with ⟨c, rfl⟩ | ⟨c, rfl⟩
  · exact .inl (by show min x.2.1 lo ≤ lo; omega)
  · exact .inr (by show hi ≤ max x.1 hi; omega)
/-! ### filling -/
def fill (w : β) (hi : Nat) : Nat → List (Sp β) → List (Sp β)
  | a, [] => if a < hi then [(a, hi, w)] else []
  | a, x :: S => (if a < x.1 then [(a, x.1, w)] else []) ++ x :: fill w hi x.2.1 S
theorem fill_ok {w : β} : ∀ {S : List (Sp β)} {a : Nat}, a ≤ hi → Pos S → Asc S → InR a hi S → Pos (fill w hi a S) ∧ Asc (fill w hi a S) ∧ InR a hi (fill w hi a S) ∧ ∀ k v, Has (fill w hi a S) k v ↔ Has S k v ∨ (a ≤ k ∧ k < hi ∧ (∀ u, ¬ Has S k u) ∧ v = w)
  | [], a, ha, _, _, _ => by
    unfold fill
    by_cases c : a < hi
    · rw [if_pos c]
      refine ⟨fun x hx => ?_, List.pairwise_singleton _ _, fun x hx => ?_, fun k v => ?_⟩
      · rw [List.mem_singleton.mp hx]
        exact c
      · rw [List.mem_singleton.mp hx]
        exact ⟨Nat.le_refl _, Nat.le_refl _⟩
      · rw [has_cons]
        constructor
        · rintro (⟨h1, h2, h3⟩ | h)
          · exact .inr ⟨h1, h2, fun u => has_nil, h3.symm⟩
          · exact (has_nil h).elim
        · rintro (h | ⟨h1, h2, _, h3⟩)
          · exact (has_nil h).elim
          · exact .inl ⟨h1, h2, h3.symm⟩
    · rw [if_neg c]
      refine ⟨fun x hx => (by cases hx), .nil, fun x hx => (by cases hx), fun k v => ⟨fun h => (has_nil h).elim, fun h => ?_⟩⟩
      rcases h with h | ⟨h1, h2, _⟩
      · exact h
      · omega
  | x :: S, a, ha, hp, hs, hr => by
    obtain ⟨s1, s2⟩ := List.pairwise_cons.mp hs
    have px := hp x List.mem_cons_self
    have rx := hr x List.mem_cons_self
    obtain ⟨f1, f2, f3, f4⟩ := fill_ok (w := w) (S := S) (a := x.2.1) rx.2 (fun y hy => hp y (List.mem_cons_of_mem _ hy)) s2 fun y hy => ⟨s1 y hy, (hr y (List.mem_cons_of_mem _ hy)).2⟩
    have later : ∀ {k v}, Has S k v → x.2.1 ≤ k := fun {k v} ⟨y, hy, h1, h2, h3⟩ => Nat.le_trans (s1 y hy) h1
    unfold fill
    refine ⟨fun y hy => ?_, List.pairwise_append.mpr ⟨?_, List.pairwise_cons.mpr ⟨fun y hy => (f3 y hy).1, f2⟩, fun y hy z hz => ?_⟩, fun y hy => ?_, fun k v => ?_⟩
    · rcases List.mem_append.mp hy with hy | hy
      · split at hy
        · rename_i c
          rw [List.mem_singleton.mp hy]
          exact c
        · cases hy
      · rcases List.mem_cons.mp hy with rfl | hy
        · exact px
        · exact f1 y hy
    · split
      · exact List.pairwise_singleton _ _
      · exact .nil
    · split at hy
      · rw [List.mem_singleton.mp hy]
        rcases List.mem_cons.mp hz with rfl | hz
        · exact Nat.le_refl _
        · have := (f3 z hz).1
          show x.1 ≤ z.1
          omega
      · cases hy
    · rcases List.mem_append.mp hy with hy | hy
      · split at hy
        · rw [List.mem_singleton.mp hy]
          exact ⟨Nat.le_refl _, by show x.1 ≤ hi; omega⟩
        · cases hy
      · rcases List.mem_cons.mp hy with rfl | hy
        · exact rx
        · have := f3 y hy
          exact ⟨by omega, this.2⟩
    · rw [has_append, has_cons, has_cons, f4]
      have hg : Has (if a < x.1 then [(a, x.1, w)] else []) k v ↔ a ≤ k ∧ k < x.1 ∧ v = w := by
        by_cases c : a < x.1
        · rw [if_pos c, has_cons]
          constructor
          · rintro (⟨h1, h2, h3⟩ | h)
            · exact ⟨h1, h2, h3.symm⟩
            · exact (has_nil h).elim
          · rintro ⟨h1, h2, h3⟩
            exact .inl ⟨h1, h2, h3.symm⟩
        · rw [if_neg c]
          exact ⟨fun h => (has_nil h).elim, fun h => by omega⟩
      rw [hg]
      constructor
      · rintro (⟨h1, h2, h3⟩ | h | h | ⟨h1, h2, h3, h4⟩)
        · refine .inr ⟨h1, by omega, fun u z => ?_, h3⟩
          rcases has_cons.mp z with z | z
          · omega
          · have := later z
            omega
        · exact .inl (.inl h)
        · exact .inl (.inr h)
        · refine .inr ⟨by omega, h2, fun u z => ?_, h4⟩
          rcases has_cons.mp z with z | z
          · omega
          · exact h3 u z
      · rintro ((h | h) | ⟨h1, h2, h3, h4⟩)
        · exact .inr (.inl h)
        · exact .inr (.inr (.inl h))
        · by_cases c : k < x.1
          · exact .inl ⟨h1, c, h4⟩
          · refine .inr (.inr (.inr ⟨?_, h2, fun u z => h3 u (has_cons.mpr (.inr z)), h4⟩))
            by_cases d : k < x.2.1
            · exact absurd (has_cons.mpr (.inl ⟨by omega, d, rfl⟩)) (h3 x.2.2)
            · omega
/-! ### the worths changed, sorted -/
def upw (g : β → β) (x : Sp β) : Sp β := (x.1, x.2.1, g x.2.2)
theorem has_upw {g : β → β} {k : Nat} {v : β} : Has (S.map (upw g)) k v ↔ ∃ u, Has S k u ∧ v = g u := by
  constructor
  · rintro ⟨y, hy, h1, h2, h3⟩
    obtain ⟨x, hx, rfl⟩ := List.mem_map.mp hy
    exact ⟨x.2.2, ⟨x, hx, h1, h2, rfl⟩, h3.symm⟩
  · rintro ⟨u, ⟨x, hx, h1, h2, h3⟩, h4⟩
    exact ⟨_, List.mem_map.mpr ⟨x, hx, rfl⟩, h1, h2, by rw [h4, ← h3]; rfl⟩
/-- no two of them share a place -/
def Dis (S : List (Sp β)) : Prop := S.Pairwise fun x y => x.2.1 ≤ y.1 ∨ y.2.1 ≤ x.1
theorem Asc.dis (h : Asc S) : Dis S := h.imp fun z => .inl z
theorem sorted_asc {T : List (Sp β)} (hp : Pos S) (hd : Dis S) (e : T.Perm S) (h : T.Pairwise fun x y => x.1 ≤ y.1) : Pos T ∧ Asc T := by
  have pT : Pos T := fun x hx => hp x (e.mem_iff.mp hx)
  have dT : Dis T := e.symm.pairwise hd fun {x y} z => z.symm
  refine ⟨pT, ?_⟩
  have both := (List.pairwise_and_iff.mpr ⟨dT, h⟩ : T.Pairwise fun x y => (x.2.1 ≤ y.1 ∨ y.2.1 ≤ x.1) ∧ x.1 ≤ y.1)
  refine List.Pairwise.imp_of_mem (fun {x y} hx hy z => ?_) both
  have := pT y hy
  omega
/-- the spans after an act on a range: those outside, and those in it, filled and changed -/
def acted (lo hi : Nat) (w : β) (g : β → β) (S : List (Sp β)) : List (Sp β) := S.flatMap (outS lo hi) ++ (fill w hi lo (S.flatMap (inS lo hi))).map (upw g)
theorem acted_ok {w : β} {g : β → β} {T : List (Sp β)} (hlh : lo < hi) (hp : Pos S) (ha : Asc S) (e : T.Perm (acted lo hi w g S)) (h : T.Pairwise fun x y => x.1 ≤ y.1) :
    Pos T ∧ Asc T ∧ ∀ k v, Has T k v ↔ (Has S k v ∧ (k < lo ∨ hi ≤ k)) ∨ (lo ≤ k ∧ k < hi ∧ ((∃ u, Has S k u ∧ v = g u) ∨ ((∀ u, ¬ Has S k u) ∧ v = g w))) := by
  obtain ⟨f1, f2, f3, f4⟩ := fill_ok (w := w) (Nat.le_of_lt hlh) (pos_in hlh hp) (asc_in (lo := lo) (hi := hi) ha) inR_in
  have pA : Pos (acted lo hi w g S) := fun x hx => by
    rcases List.mem_append.mp hx with hx | hx
    · exact pos_out hp x hx
    · obtain ⟨y, hy, rfl⟩ := List.mem_map.mp hx
      exact f1 y hy
  have dA : Dis (acted lo hi w g S) := by
    refine List.pairwise_append.mpr ⟨(asc_out (Nat.le_of_lt hlh) ha).dis, ?_, fun x hx y hy => ?_⟩
    · rw [List.pairwise_map]
      exact f2.imp fun z => .inl z
    · obtain ⟨z, hz, rfl⟩ := List.mem_map.mp hy
      have a := outR_out x hx
      have b := f3 z hz
      show x.2.1 ≤ z.1 ∨ z.2.1 ≤ x.1
      omega
  obtain ⟨t1, t2⟩ := sorted_asc pA dA e h
  refine ⟨t1, t2, fun k v => ?_⟩
  rw [has_perm e]
  unfold acted
  rw [has_append, has_out, has_upw]
  constructor
  · rintro (h | ⟨u, hu, rfl⟩)
    · exact .inl h
    · rcases (f4 k u).mp hu with z | ⟨z1, z2, z3, rfl⟩
      · obtain ⟨z1, z2, z3⟩ := has_in.mp z
        exact .inr ⟨z2, z3, .inl ⟨u, z1, rfl⟩⟩
      · exact .inr ⟨z1, z2, .inr ⟨fun u z => z3 u (has_in.mpr ⟨z, z1, z2⟩), rfl⟩⟩
  · rintro (h | ⟨h1, h2, ⟨u, h3, rfl⟩ | ⟨h3, rfl⟩⟩)
    · exact .inl h
    · exact .inr ⟨u, (f4 k u).mpr (.inl (has_in.mpr ⟨h3, h1, h2⟩)), rfl⟩
    · exact .inr ⟨w, (f4 k w).mpr (.inr ⟨h1, h2, fun u z => h3 u (has_in.mp z).1, rfl⟩), rfl⟩
end
end Mspan
namespace Q
open PySem L2
local macro_rules | `(tactic| walk_at "mu") => `(tactic| (repeat (first | exact mset_same | assumption | (rw [mset_ne]; rotate_left; (first | assumption | exact Ne.symm (by assumption))))))
local macro_rules | `(tactic| walk_at "lk") => `(tactic| (repeat (first | exact lk_hit | exact lk_nil | refine lk_skip (by decide +kernel) ?_)))
local macro_rules | `(tactic| walk_at "pf") => `(tactic| (repeat (first | rw [pf_nil] | rw [pf_hit] | (rw [pf_skip]; rotate_left; (focus (decide +kernel; done))))))
local macro_rules | `(tactic| walk_at "q") => `(tactic| ((with_reducible conv => whnf); repeat (first
  | (with_reducible refine q_t (by assumption) ?_; with_reducible conv => whnf)
  | (with_reducible refine q_f (by assumption) ?_; with_reducible conv => whnf)
  | (with_reducible refine q_t (by with_reducible rfl) ?_; with_reducible conv => whnf)
  | (with_reducible refine q_f (by with_reducible rfl) ?_; with_reducible conv => whnf)
  | (with_reducible refine q_t (by decide) ?_; with_reducible conv => whnf)
  | (with_reducible refine q_f (by decide) ?_; with_reducible conv => whnf)
  | (with_reducible refine q_t (decide_eq_true (by omega)) ?_; with_reducible conv => whnf)
  | (with_reducible refine q_f (decide_eq_false (by omega)) ?_; with_reducible conv => whnf)
  | (with_reducible refine q_f (q_nn (by omega)) ?_; with_reducible conv => whnf)
  | (with_reducible refine q_t (q_nt (by omega)) ?_; with_reducible conv => whnf)
  | (with_reducible refine q_len (by with_unfolding_all rfl) ?_; with_reducible conv => whnf)
  | (with_reducible refine q_leq (by with_unfolding_all rfl) ?_; with_reducible conv => whnf)
  | (with_reducible refine q_and (by first | assumption | exact True.intro | omega | (simp only [List.length_map, List.length_append, List.length_cons, List.length_nil]; omega) | decide) ?_; with_reducible conv => whnf)
  | (with_reducible refine q_le (by with_unfolding_all rfl) ?_; with_reducible conv => whnf)
  | (with_reducible refine q_and tyL_lst ?_; with_reducible conv => whnf)
  | (with_reducible refine q_and tyL_rol ?_; with_reducible conv => whnf)
  | (with_reducible refine q_and (tyL_ref (by walk_at "mu")) ?_; with_reducible conv => whnf)
  | (with_reducible refine q_and (tyD_ref (by walk_at "mu")) ?_; with_reducible conv => whnf)
  | (with_reducible refine q_and (rdD_ref (by walk_at "mu")) ?_; with_reducible conv => whnf)
  | (rw [pick_c0]; with_reducible conv => whnf)
  | (rw [pick_c1]; with_reducible conv => whnf)
  | (rw [pick_c2]; with_reducible conv => whnf)
  | (rw [pick_c3]; with_reducible conv => whnf)
  | (rw [pick_c4]; with_reducible conv => whnf)
  | (rw [pick_c5]; with_reducible conv => whnf)
  | (rw [mset_same]; with_reducible conv => whnf)
  | (rw [mset_ne (by assumption)]; with_reducible conv => whnf)
  | (rw [mset_ne]; rotate_left; (first | assumption | exact Ne.symm (by assumption)); with_reducible conv => whnf)
  | (rw [rdL_ref]; rotate_left; (focus (walk_at "mu"; done)); with_reducible conv => whnf)
  | (rw [rdL_refD]; rotate_left; (focus (walk_at "mu"; done)); with_reducible conv => whnf)
  | (rw [rdD_refD]; rotate_left; (focus (walk_at "mu"; done)); with_reducible conv => whnf)
  | (rw [rdM_ref]; rotate_left; (focus (walk_at "mu"; done)); with_reducible conv => whnf)
  | (rw [rdL_refK]; rotate_left; (focus (walk_at "mu"; done)); with_reducible conv => whnf)
  | (rw [rdD_refK]; rotate_left; (focus (walk_at "mu"; done)); with_reducible conv => whnf)
  | (rw [tyW_refL]; rotate_left; (focus (walk_at "mu"; done)); with_reducible conv => whnf)
  | (rw [tyW_refD]; rotate_left; (focus (walk_at "mu"; done)); with_reducible conv => whnf)
  | (rw [drf_ref]; rotate_left; (focus (walk_at "mu"; done)); with_reducible conv => whnf)
  | ((conv => (arg 2; tactic' => (walk_at "mu"; done))); with_reducible conv => whnf)
  | (with_reducible refine q_and (Eq.refl _) ?_; with_reducible conv => whnf)
  | (with_reducible refine q_and (MulO.r (by decide)) ?_; with_reducible conv => whnf)
  | (with_reducible refine q_and (MulO.l (by decide)) ?_; with_reducible conv => whnf)
  | (with_reducible refine q_and (MulO.r (by omega)) ?_; with_reducible conv => whnf)
  | (with_reducible refine q_and (MulO.l (by omega)) ?_; with_reducible conv => whnf)
  | (with_reducible refine q_pow (by decide) ?_; with_reducible conv => whnf)
  | (with_reducible refine q_nisT (by first | assumption | with_reducible rfl) ?_; with_reducible conv => whnf)
  | (with_reducible refine q_nisF (by first | assumption | with_reducible rfl) ?_; with_reducible conv => whnf)
  | (with_reducible refine q_eqI ?_; with_reducible conv => whnf)
  | (with_reducible refine q_eqS ?_; with_reducible conv => whnf)
  | (with_reducible refine q_eqB ?_; with_reducible conv => whnf)
  | (with_reducible refine q_neI ?_; with_reducible conv => whnf)
  | (with_reducible refine q_neS ?_; with_reducible conv => whnf)
  | (with_reducible refine q_neB ?_; with_reducible conv => whnf)
  | (with_reducible refine q_memc ?_; with_reducible conv => whnf)
  | (with_reducible refine q_lkn (by walk_at "lk") ?_; with_reducible conv => whnf)
  | (with_reducible refine q_tix (by walk_at "lk"; done) ?_; with_reducible conv => whnf)
  | (with_reducible refine q_tin ?_; with_reducible conv => whnf)
  | (rw [pf_hit]; with_reducible conv => whnf)
  | (rw [pf_skip]; rotate_left; (focus (decide +kernel; done)); with_reducible conv => whnf)
  | (rw [lk_hit]; with_reducible conv => whnf)
  | (rw [lk_skip1]; rotate_left; (focus (decide +kernel; done)); with_reducible conv => whnf))))
/-! spans: bounds told by their numbers -/
section
open Mspan
variable {n : Nat} {b : Nat → Str} {β : Type} [DecidableEq β] {ew : β → W}
def bo (b : Nat → Str) (n i : Nat) : Option Str := if i < n then some (b i) else none
abbrev bw (b : Nat → Str) (n i : Nat) : W := oS (bo b n i)
def Inc (b : Nat → Str) (n : Nat) : Prop := ∀ i j, i < j → j < n → sLt (b i) (b j) = true
theorem bo_lt {i : Nat} (h : i < n) : bo b n i = some (b i) := if_pos h
theorem bo_n : bo b n n = none := if_neg (Nat.lt_irrefl n)
theorem bw_lt {i : Nat} (h : i < n) : bw b n i = .str (b i) := by
  unfold bw
  rw [bo_lt h]
theorem bw_n : bw b n n = .non := by
  unfold bw
  rw [bo_n]
theorem blt (h : Inc b n) {i j : Nat} (hi : i < n) (hj : j < n) : sLt (b i) (b j) = decide (i < j) := by
  rcases Nat.lt_trichotomy i j with c | c | c
  · rw [h i j c hj, decide_eq_true c]
  · rw [c, So.sLt_irr, decide_eq_false (Nat.lt_irrefl _)]
  · rw [So.sLt_as (h j i c hi), decide_eq_false (by omega)]
theorem sp_bl (h : Inc b n) {i j : Nat} (hi : i ≤ n) (hj : j ≤ n) {μ : Mu} {P : Po} {X : Xo} (q : P (.bl (decide (i < j))) μ) : f_below [bw b n i, bw b n j] μ P X := by
  by_cases c : i < n
  · rw [bw_lt c]
    refine sp_below ?_
    have e : belowB (b i) (bo b n j) = decide (i < j) := by
      by_cases d : j < n
      · rw [bo_lt d]
        exact blt h c d
      · have : j = n := by omega
        subst this
        rw [bo_n, decide_eq_true c]
        rfl
    rw [e]
    exact q
  · have : i = n := by omega
    subst this
    rw [decide_eq_false (by omega)] at q
    rw [f_below_eq]; unfold f_below_B fDef
    refine ⟨rfl, ?_⟩
    rw [bw_n]
    walk_at "q"
    exact Rt.now q
theorem sp_overlap (h : Inc b n) {i j k l : Nat} (hi : i ≤ n) (hj : j ≤ n) (hk : k ≤ n) (hl : l ≤ n) {μ : Mu} {P : Po} {X : Xo} (q : P (.bl (decide (i < l ∧ k < j))) μ) : f_overlap [bw b n i, bw b n j, bw b n k, bw b n l] μ P X := by
  rw [f_overlap_eq]; unfold f_overlap_B fDef
  refine ⟨rfl, ?_⟩
  walk_at "q"
  refine sp_bl h hi hl ?_
  refine q_ifP (fun c => ?_) fun c => ?_
  · walk_at "q"
    refine sp_bl h hk hj ?_
    have e : decide (i < l ∧ k < j) = decide (k < j) := by simp [c]
    rw [e] at q
    exact Rt.now q
  · have e : decide (i < l ∧ k < j) = false := by simp [c]
    rw [e] at q
    exact Rt.now q
theorem sp_lesser (h : Inc b n) {i j : Nat} (hi : i ≤ n) (hj : j ≤ n) {μ : Mu} {P : Po} {X : Xo} (q : P (bw b n (min i j)) μ) : f__lesser [bw b n i, bw b n j] μ P X := by
  rw [f__lesser_eq]; unfold f__lesser_B fDef
  refine ⟨rfl, ?_⟩
  walk_at "q"
  refine sp_bl h hi hj ?_
  refine q_ifP (fun c => ?_) fun c => ?_
  · rw [show min i j = i by omega] at q
    exact Rt.now q
  · rw [show min i j = j by omega] at q
    exact Rt.now q
/-- a span as a row -/
def en (b : Nat → Str) (n : Nat) (ew : β → W) (x : Sp β) : W := .tup [bw b n x.1, bw b n x.2.1, ew x.2.2]
theorem sMax_b (h : Inc b n) {i j : Nat} (hi : i < n) (hj : j < n) : So.sMax (b i) (b j) = b (max i j) := by
  unfold So.sMax
  rw [blt h hi hj]
  by_cases c : i < j
  · rw [decide_eq_true c, if_pos rfl, show max i j = j by omega]
  · rw [decide_eq_false c, if_neg (by simp), show max i j = i by omega]
theorem sp_blE (h : Inc b n) {i j : Nat} {x y : W} (ex : x = bw b n i) (ey : y = bw b n j) (hi : i ≤ n) (hj : j ≤ n) {μ : Mu} {P : Po} {X : Xo} (q : P (.bl (decide (i < j))) μ) : f_below [x, y] μ P X := by
  rw [ex, ey]
  exact sp_bl h hi hj q
theorem sp_overlapE (h : Inc b n) {i j k l : Nat} {x y z u : W} (ex : x = bw b n i) (ey : y = bw b n j) (ez : z = bw b n k) (eu : u = bw b n l) (hi : i ≤ n) (hj : j ≤ n) (hk : k ≤ n) (hl : l ≤ n) {μ : Mu} {P : Po} {X : Xo} (q : P (.bl (decide (i < l ∧ k < j))) μ) : f_overlap [x, y, z, u] μ P X := by
  rw [ex, ey, ez, eu]
  exact sp_overlap h hi hj hk hl q
theorem sp_lesserE (h : Inc b n) {i j : Nat} {x y : W} (ex : x = bw b n i) (ey : y = bw b n j) (hi : i ≤ n) (hj : j ≤ n) {μ : Mu} {P : Po} {X : Xo} (q : P (bw b n (min i j)) μ) : f__lesser [x, y] μ P X := by
  rw [ex, ey]
  exact sp_lesser h hi hj q
theorem len_in {lo hi : Nat} : ∀ S : List (Sp β), (S.flatMap (inS lo hi)).length ≤ S.length
  | [] => Nat.le_refl _
  | x :: S => by
    have := len_in (lo := lo) (hi := hi) S
    have h1 : (inS lo hi x).length ≤ 1 := by
      unfold inS
      split
      · exact Nat.le_refl _
      · exact Nat.zero_le _
    rw [List.flatMap_cons, List.length_append, List.length_cons]
    omega
theorem len_out {lo hi : Nat} : ∀ S : List (Sp β), (S.flatMap (outS lo hi)).length ≤ 2 * S.length
  | [] => Nat.le_refl _
  | x :: S => by
    have := len_out (lo := lo) (hi := hi) S
    have h1 : (outS lo hi x).length ≤ 2 := by
      unfold outS
      rw [List.length_append]
      split <;> split <;> simp
    rw [List.flatMap_cons, List.length_append, List.length_cons]
    omega
theorem sp_apart (h : Inc b n) {S : List (Sp β)} {lo hi : Nat} {a : Addr} {μ : Mu} {P : Po} {X : Xo} (ha : μ a = some (.ls (S.map (en b n ew)))) (hp : Pos S) (hS : ∀ x ∈ S, x.2.1 ≤ n) (hl : S.length ≤ 1000) (hlh : lo < hi) (hn : hi ≤ n)
    (k : ∀ p q, μ p = none → μ q = none → q ≠ p → P (.tup [.ref p, .ref q]) (mset (mset μ p (.ls ((S.flatMap (inS lo hi)).map (en b n ew)))) q (.ls ((S.flatMap (outS lo hi)).map (en b n ew))))) : f_apart [.ref a, .str (b lo), bw b n hi] μ P X := by
  rw [f_apart_eq]; unfold f_apart_B fDef
  refine ⟨rfl, ?_⟩
  walk_at "q"
  intro p hpn
  walk_at "q"
  intro q hqn
  obtain ⟨qp, hq0⟩ := new_ne hqn
  have pa : p ≠ a := fun e => by
    rw [e, ha] at hpn
    cases hpn
  have qa : q ≠ a := fun e => by
    rw [e, ha] at hq0
    cases hq0
  walk_at "q"
  refine itS_of (en b n ew) (fun done rest ρ μ' => done ++ rest = S ∧ μ' = mset (mset μ p (.ls ((done.flatMap (inS lo hi)).map (en b n ew)))) q (.ls ((done.flatMap (outS lo hi)).map (en b n ew))) ∧ ∃ x5 x6 x7 : Option W, ρ = [some (.ref a), some (.str (b lo)), some (bw b n hi), some (.ref p), some (.ref q), x5, x6, x7]) S [] ⟨rfl, rfl, none, none, none, rfl⟩ ?_ ?_
  · rintro done ⟨s, e, v⟩ r ρ μ' ⟨hs, rfl, x5, x6, x7, rfl⟩
    have hx : (s, e, v) ∈ S := by
      rw [← hs]
      exact List.mem_append_right _ List.mem_cons_self
    have se : s < e := hp _ hx
    have en' : e ≤ n := hS _ hx
    have ld : done.length ≤ 1000 := by
      have := congrArg List.length hs
      rw [List.length_append] at this
      omega
    have l1 := len_in (lo := lo) (hi := hi) done
    have l2 := len_out (lo := lo) (hi := hi) done
    have rA : (done ++ [(s, e, v)]).flatMap (inS lo hi) = done.flatMap (inS lo hi) ++ inS lo hi (s, e, v) := by simp
    have rB : (done ++ [(s, e, v)]).flatMap (outS lo hi) = done.flatMap (outS lo hi) ++ outS lo hi (s, e, v) := by simp
    rw [rA, rB]
    have lA : ((done.flatMap (inS lo hi)).map (en b n ew)).length ≤ 1000 := by
      rw [List.length_map]
      omega
    have lB : ((done.flatMap (outS lo hi)).map (en b n ew)).length ≤ 2000 := by
      rw [List.length_map]
      omega
    rw [List.map_append, List.map_append]
    revert lA lB
    generalize (done.flatMap (inS lo hi)).map (en b n ew) = A
    generalize (done.flatMap (outS lo hi)).map (en b n ew) = B
    intro lA lB
    refine ⟨?_, fun K hK => ?_⟩
    · exact rdL_ref (by rw [mset_ne (Ne.symm qa), mset_ne (Ne.symm pa), ha])
    · show gT 3 _ (.tup [bw b n s, bw b n e, ew v]) _ _ _
      have es : bw b n s = .str (b s) := bw_lt (by omega)
      have ex : ∀ j : Nat, j < n → en b n ew (s, j, v) = .tup [.str (b s), bw b n j, ew v] := fun j _ => by
        unfold en
        rw [es]
      have hlo : bw b n lo = .str (b lo) := bw_lt (by omega)
      rw [es]
      walk_at "q"
      refine q_jn (fun ρ' μ' => ρ' = [some (.ref a), some (.str (b lo)), some (bw b n hi), some (.ref p), some (.ref q), some (.str (b s)), some (bw b n e), some (ew v)] ∧ μ' = mset (mset μ p (.ls A)) q (.ls (B ++ (if s < lo then [(s, min e lo, v)] else []).map (en b n ew)))) (fun M hM => ?_) ?_
      · walk_at "q"
        rw [blt h (by omega) (by omega)]
        refine q_ifP (fun c => ?_) fun c => ?_
        · walk_at "q"
          refine sp_lesserE h rfl hlo.symm en' (by omega) ?_
          walk_at "q"
          refine hM _ _ ⟨rfl, ?_⟩
          rw [if_pos c, mset_mset]
          simp only [List.map_cons, List.map_nil, en, es]
        · walk_at "q"
          refine hM _ _ ⟨rfl, ?_⟩
          rw [if_neg c, List.map_nil, List.append_nil]
      · rintro _ _ ⟨rfl, rfl⟩
        have lB2 : (B ++ (if s < lo then [(s, min e lo, v)] else []).map (en b n ew)).length ≤ 2001 := by
          rw [List.length_append]
          split <;> simp <;> omega
        have eO : (outS lo hi (s, e, v)).map (en b n ew) = (if s < lo then [(s, min e lo, v)] else []).map (en b n ew) ++ (if hi < e then [(max s hi, e, v)] else []).map (en b n ew) := List.map_append
        rw [eO, ← List.append_assoc] at hK
        revert lB2 hK
        generalize B ++ (if s < lo then [(s, min e lo, v)] else []).map (en b n ew) = B2
        intro hK lB2
        refine q_jn (fun ρ' μ' => ρ' = [some (.ref a), some (.str (b lo)), some (bw b n hi), some (.ref p), some (.ref q), some (.str (b s)), some (bw b n e), some (ew v)] ∧ μ' = mset (mset μ p (.ls (A ++ (inS lo hi (s, e, v)).map (en b n ew)))) q (.ls B2)) (fun M hM => ?_) ?_
        · walk_at "q"
          refine sp_overlapE h es.symm rfl hlo.symm rfl (by omega) en' (by omega) hn ?_
          refine q_ifP (fun c => ?_) fun c => ?_
          · walk_at "q"
            rw [sMax_b h (by omega) (by omega)]
            walk_at "q"
            refine sp_lesserE h rfl rfl en' hn ?_
            walk_at "q"
            refine hM _ _ ⟨rfl, ?_⟩
            rw [mset_comm qp, mset_mset]
            have c2 : inS lo hi (s, e, v) = [(max s lo, min e hi, v)] := if_pos c
            rw [c2]
            simp only [List.map_cons, List.map_nil, en, bw_lt (show max s lo < n by omega)]
          · walk_at "q"
            refine hM _ _ ⟨rfl, ?_⟩
            have c2 : inS lo hi (s, e, v) = [] := if_neg c
            rw [c2, List.map_nil, List.append_nil]
        · rintro _ _ ⟨rfl, rfl⟩
          walk_at "q"
          refine sp_blE h rfl rfl hn en' ?_
          refine q_ifP (fun c => ?_) fun c => ?_
          · have hh : bw b n hi = .str (b hi) := bw_lt (by omega)
            rw [hh]
            walk_at "q"
            rw [sMax_b h (by omega) (by omega)]
            walk_at "q"
            refine hK _ _ ⟨by simp [hs], ?_, _, _, _, by rw [hh]⟩
            rw [if_pos c, mset_mset]
            simp only [List.map_cons, List.map_nil, en, bw_lt (show max s hi < n by omega)]
          · walk_at "q"
            refine hK _ _ ⟨by simp [hs], ?_, _, _, _, rfl⟩
            rw [if_neg c, List.map_nil, List.append_nil]
  · rintro done ρ μ' ⟨hs, rfl, x5, x6, x7, rfl⟩
    walk_at "q"
    rw [List.append_nil] at hs
    subst hs
    exact Rt.now (k p q hpn hq0 qp)
theorem sp_filled (h : Inc b n) {S : List (Sp β)} {lo hi : Nat} {v : β} {a : Addr} {μ : Mu} {P : Po} {X : Xo} (ha : μ a = some (.ls (S.map (en b n ew)))) (hp : Pos S) (hs : Asc S) (hr : InR lo hi S) (hl : S.length ≤ 1000) (hlh : lo < hi) (hn : hi ≤ n)
    (k : ∀ p, μ p = none → P (.ref p) (mset μ p (.ls ((fill v hi lo S).map (en b n ew))))) : f_filled [.ref a, .str (b lo), bw b n hi, ew v] μ P X := by
  rw [f_filled_eq]; unfold f_filled_B fDef
  refine ⟨rfl, ?_⟩
  walk_at "q"
  intro p hpn
  have pa : p ≠ a := fun e => by
    rw [e, ha] at hpn
    cases hpn
  walk_at "q"
  refine itS_of (en b n ew) (fun done rest ρ μ' => done ++ rest = S ∧ ∃ (t : Nat) (A : List (Sp β)) (x6 : Option W), fill v hi lo S = A ++ fill v hi t rest ∧ t ≤ hi ∧ (∀ x ∈ rest, t ≤ x.1) ∧ A.length ≤ 2 * done.length ∧
    μ' = mset μ p (.ls (A.map (en b n ew))) ∧ ρ = [some (.ref a), some (.str (b lo)), some (bw b n hi), some (ew v), some (.ref p), some (bw b n t), x6]) S [] ⟨rfl, lo, [], none, rfl, Nat.le_of_lt hlh, fun x hx => (hr x hx).1, Nat.le_refl _, rfl, by rw [bw_lt (show lo < n by omega)]⟩ ?_ ?_
  · rintro done ⟨s, e, y⟩ r ρ μ' ⟨hd, t, A, x6, hf, ht, ht2, hA, rfl, rfl⟩
    have hx : (s, e, y) ∈ S := by
      rw [← hd]
      exact List.mem_append_right _ List.mem_cons_self
    have se : s < e := hp _ hx
    have en' := hr _ hx
    have ts : t ≤ s := ht2 _ List.mem_cons_self
    have ld : done.length + 1 ≤ 1000 := by
      have := congrArg List.length hd
      rw [List.length_append, List.length_cons] at this
      omega
    have asc' : ∀ x ∈ r, e ≤ x.1 := by
      rw [← hd] at hs
      exact (List.pairwise_cons.mp (List.pairwise_append.mp hs).2.1).1
    have es : bw b n s = .str (b s) := bw_lt (by have := en'.2; simp only at this; omega)
    have et : bw b n t = .str (b t) := bw_lt (by have := en'.2; simp only at this; omega)
    have tn : t < n := by have := en'.2; simp only at this; omega
    have sn : s < n := by have := en'.2; simp only at this; omega
    have lA : (A.map (en b n ew)).length ≤ 2000 := by
      rw [List.length_map]
      omega
    refine ⟨rdL_ref (by rw [mset_ne (Ne.symm pa), ha]), fun K hK => ?_⟩
    have eX : en b n ew (s, e, y) = .tup [.str (b s), bw b n e, ew y] := by
      unfold en
      rw [es]
    rw [et, eX]
    walk_at "q"
    refine q_jn (fun ρ' μ' => ρ' = [some (.ref a), some (.str (b lo)), some (bw b n hi), some (ew v), some (.ref p), some (.str (b t)), some (.tup [.str (b s), bw b n e, ew y])] ∧ μ' = mset μ p (.ls ((A ++ (if t < s then [(t, s, v)] else [])).map (en b n ew)))) (fun M hM => ?_) ?_
    · walk_at "q"
      rw [blt h tn sn]
      refine q_ifP (fun c => ?_) fun c => ?_
      · walk_at "q"
        refine hM _ _ ⟨rfl, ?_⟩
        rw [if_pos c, mset_mset, List.map_append]
        simp only [List.map_cons, List.map_nil, en, es, et]
      · walk_at "q"
        refine hM _ _ ⟨rfl, ?_⟩
        rw [if_neg c, List.append_nil]
    · rintro _ _ ⟨rfl, rfl⟩
      have lA2 : ((A ++ (if t < s then [(t, s, v)] else [])).map (en b n ew)).length ≤ 2001 := by
        rw [List.length_map, List.length_append]
        rw [List.length_map] at lA
        split <;> simp <;> omega
      walk_at "q"
      refine hK _ _ ⟨by simp [hd], e, A ++ (if t < s then [(t, s, v)] else []) ++ [(s, e, y)], _, ?_, en'.2, asc', ?_, ?_, rfl⟩
      · rw [hf]
        show A ++ ((if t < s then [(t, s, v)] else []) ++ (s, e, y) :: fill v hi e r) = _
        simp
      · rw [List.length_append, List.length_append, List.length_append, List.length_singleton]
        have : (if t < s then [(t, s, v)] else []).length ≤ 1 := by split <;> simp
        show _ ≤ 2 * (done.length + 1)
        omega
      · rw [mset_mset, List.map_append (l₂ := [(s, e, y)])]
        simp only [List.map_cons, List.map_nil, eX]
  · rintro done ρ μ' ⟨hd, t, A, x6, hf, ht, ht2, hA, rfl, rfl⟩
    have ld : done.length ≤ 1000 := by
      have := congrArg List.length hd
      rw [List.length_append] at this
      omega
    have lA : (A.map (en b n ew)).length ≤ 2000 := by
      rw [List.length_map]
      omega
    refine ⟨rdL_ref (by rw [mset_ne (Ne.symm pa), ha]), ?_⟩
    walk_at "q"
    refine q_jn (fun ρ' μ' => (∃ x6, ρ' = [some (.ref a), some (.str (b lo)), some (bw b n hi), some (ew v), some (.ref p), some (bw b n t), x6]) ∧ μ' = mset μ p (.ls ((fill v hi lo S).map (en b n ew)))) (fun M hM => ?_) ?_
    · walk_at "q"
      refine sp_bl h (by omega) hn ?_
      refine q_ifP (fun c => ?_) fun c => ?_
      · walk_at "q"
        refine hM _ _ ⟨⟨_, rfl⟩, ?_⟩
        rw [hf, mset_mset, List.map_append]
        unfold fill
        rw [if_pos c]
        simp only [List.map_cons, List.map_nil, en]
      · walk_at "q"
        refine hM _ _ ⟨⟨_, rfl⟩, ?_⟩
        rw [hf]
        unfold fill
        rw [if_neg c, List.append_nil]
    · rintro _ _ ⟨⟨x6, rfl⟩, rfl⟩
      walk_at "q"
      exact Rt.now (k p hpn)
theorem sLt_le (h : Inc b n) {i j : Nat} (hi : i < n) (hj : j < n) : decide ((b i).cps.toList ≤ (b j).cps.toList) = decide (i ≤ j) := by
  have e := blt h hj hi
  unfold sLt at e
  have e : ((b j).cps.toList < (b i).cps.toList) ↔ j < i := decide_eq_decide.mp e
  apply decide_eq_decide.mpr
  rw [← List.not_lt, e]
  omega
/-- sorted by where they start -/
def srt (S : List (Sp β)) : List (Sp β) := S.mergeSort fun x y => decide (x.1 ≤ y.1)
theorem srt_perm (S : List (Sp β)) : (srt S).Perm S := List.mergeSort_perm _ _
theorem srt_le (S : List (Sp β)) : (srt S).Pairwise fun x y => x.1 ≤ y.1 := by
  have := List.pairwise_mergeSort (le := fun (x y : Sp β) => decide (x.1 ≤ y.1)) (fun a b c h1 h2 => by simp at *; omega) (fun a b => by simp; omega) S
  exact this.imp fun h => of_decide_eq_true h
def keyd (b : Nat → Str) (n : Nat) (ew : β → W) (x : Sp β) : W × PyData := (en b n ew x, .str (b x.1))
theorem srt_key (h : Inc b n) {S : List (Sp β)} (hS : ∀ x ∈ S, x.1 < n) : sortK (S.map (keyd b n ew)) = (srt S).map (en b n ew) := by
  unfold sortK srt
  have e := List.map_mergeSort (l := S) (f := keyd b n ew) (r := fun x y => decide (x.1 ≤ y.1)) (s := PySem.W.dataLe false (·.2)) fun x hx y hy => by
    have q : PySem.W.dataLe false (fun x : Sp β => .str (b x.1)) x y = decide ((b x.1).cps.toList ≤ (b y.1).cps.toList) := by rw [PySem.W.dataLe_str]
    rw [sLt_le h (hS x hx) (hS y hy)] at q
    exact q.symm
  rw [← e, List.map_map]
  rfl
theorem keyd_ok {S : List (Sp β)} (hS : ∀ x ∈ S, x.1 < n) : KeyI 0 (S.map (keyd b n ew)) ∧ PySem.W.AllAlike ((S.map (keyd b n ew)).map (·.2)) := by
  refine ⟨fun y hy => ?_, fun d hd d' hd' => ?_⟩
  · obtain ⟨x, hx, rfl⟩ := List.mem_map.mp hy
    exact ⟨[bw b n x.1, bw b n x.2.1, ew x.2.2], bw b n x.1, rfl, rfl, by rw [bw_lt (hS x hx)]; rfl⟩
  · obtain ⟨y, hy, rfl⟩ := List.mem_map.mp hd
    obtain ⟨x, hx, rfl⟩ := List.mem_map.mp hy
    obtain ⟨y', hy', rfl⟩ := List.mem_map.mp hd'
    obtain ⟨x', hx', rfl⟩ := List.mem_map.mp hy'
    rfl
theorem wEqu_data {x y : W} {μ : Mu} {P : Po} (hx : isD 60 x = true) (hy : isD 60 y = true) (h : P (.bl (eqW x y)) μ) : wEqu x y μ P := by
  have ex := isD_drf (μ := μ) hx
  have ey := isD_drf (μ := μ) hy
  have g : wEqG false x y μ P := by
    refine ⟨by rw [ex]; exact hx, by rw [ey]; exact hy, ?_⟩
    rw [ex, ey, if_neg Bool.false_ne_true]
    exact h
  unfold wEqu wEq
  cases x <;> cases y <;> first
    | exact g
    | exact h
theorem bw_D (i : Nat) : isD 60 (bw b n i) = true := by
  by_cases c : i < n
  · rw [bw_lt c]
    rfl
  · unfold bw bo
    rw [if_neg c]
    rfl
theorem b_inj (h : Inc b n) {i j : Nat} (hi : i < n) (hj : j < n) (e : b i = b j) : i = j := by
  have h1 := blt h hi hj
  have h2 := blt h hj hi
  rw [e, So.sLt_irr] at h1
  rw [e, So.sLt_irr] at h2
  have h1 := of_decide_eq_false h1.symm
  have h2 := of_decide_eq_false h2.symm
  omega
theorem bw_eq (h : Inc b n) {i j : Nat} (hi : i ≤ n) (hj : j < n) : eqW (bw b n i) (.str (b j)) = decide (i = j) := by
  by_cases c : i < n
  · rw [bw_lt c]
    show (b i == b j) = _
    by_cases d : i = j
    · simp [d]
    · rw [decide_eq_false d]
      exact beq_eq_false_iff_ne.mpr fun e => d (b_inj h c hj e)
  · have : i = n := by omega
    subst this
    rw [bw_n, decide_eq_false (by omega)]
    rfl
theorem set_end {α : Type} (xs : List α) (x y : α) : (xs ++ [x]).set xs.length y = xs ++ [y] := by
  induction xs with
  | nil => rfl
  | cons z zs ih => exact congrArg (z :: ·) ih
theorem sp_fused (h : Inc b n) {S : List (Sp β)} {μ : Mu} {P : Po} {X : Xo} {Pt : Addr} (hw : ∀ v u : β, eqW (ew v) (ew u) = decide (v = u)) (hD : ∀ v : β, isD 60 (ew v) = true) (hT : μ Pt = some (.tb ("fused", none) ("fused" ++ ".<locals>." ++ "<lambda>"))) (hp : Pos S) (hS : ∀ x ∈ S, x.2.1 ≤ n) (hl : S.length ≤ 5000)
    (k : ∀ p, μ p = none → P (.ref p) (mset μ p (.ls ((fuse (srt S)).map (en b n ew))))) : f_fused [.lst (S.map (en b n ew))] μ P X := by
  rw [f_fused_eq]; unfold f_fused_B fDef
  refine ⟨rfl, ?_⟩
  walk_at "q"
  intro p hpn
  have pt : p ≠ Pt := fun e => by
    rw [e, hT] at hpn
    cases hpn
  have hlt : ∀ x ∈ S, x.1 < n := fun x hx => Nat.lt_of_lt_of_le (hp x hx) (hS x hx)
  walk_at "q"
  refine ⟨Pt, S.map (keyd b n ew), by rw [mset_ne (Ne.symm pt), hT], by rw [List.map_map]; rfl, (keyd_ok hlt).1, (keyd_ok hlt).2, ?_⟩
  rw [srt_key h hlt]
  walk_at "q"
  have hT2 : ∀ x ∈ srt S, x.1 < n ∧ x.2.1 ≤ n ∧ x.1 < x.2.1 := fun x hx => ⟨hlt x ((srt_perm S).mem_iff.mp hx), hS x ((srt_perm S).mem_iff.mp hx), hp x ((srt_perm S).mem_iff.mp hx)⟩
  have lT : (srt S).length ≤ 5000 := by rw [(srt_perm S).length_eq]; exact hl
  revert k hT2 lT
  generalize srt S = T
  intro k hT2 lT
  refine itS_of (en b n ew) (fun done rest ρ μ' => done ++ rest = T ∧ (done.foldl step []).length ≤ done.length ∧ (∀ x ∈ done.foldl step [], x.1 < n ∧ x.2.1 ≤ n) ∧ μ' = mset μ p (.ls ((done.foldl step []).reverse.map (en b n ew))) ∧ ∃ x2 x3 x4 : Option W, ρ = [some (.lst (S.map (en b n ew))), some (.ref p), x2, x3, x4]) T [] ⟨rfl, Nat.le_refl _, fun x hx => (by cases hx), rfl, none, none, none, rfl⟩ ?_ ?_
  · rintro done ⟨s, e, v⟩ r ρ μ' ⟨hd, hr1, hr2, rfl, x2, x3, x4, rfl⟩
    have hx := hT2 (s, e, v) (by rw [← hd]; exact List.mem_append_right _ List.mem_cons_self)
    simp only at hx
    have ld : done.length + 1 ≤ 5000 := by
      have := congrArg List.length hd
      rw [List.length_append, List.length_cons] at this
      omega
    have es : bw b n s = .str (b s) := bw_lt hx.1
    refine ⟨rfl, fun K hK => ?_⟩
    have hK : ∀ z : List (Sp β), step (done.foldl step []) (s, e, v) = z → z.length ≤ (done ++ [(s, e, v)]).length → (∀ x ∈ z, x.1 < n ∧ x.2.1 ≤ n) → ∀ x2 x3 x4 : Option W, K [some (.lst (S.map (en b n ew))), some (.ref p), x2, x3, x4] (mset μ p (.ls (z.reverse.map (en b n ew)))) := fun z ez h1 h2 x2 x3 x4 => by
      have ef : (done ++ [(s, e, v)]).foldl step [] = z := by rw [List.foldl_append, ← ez]; rfl
      exact hK _ _ ⟨by simp [hd], by rw [ef]; exact h1, by rw [ef]; exact h2, by rw [ef], x2, x3, x4, rfl⟩
    revert hr1 hr2 hK
    generalize done.foldl step [] = R
    intro hr1 hr2 hK
    show gT 3 _ (.tup [bw b n s, bw b n e, ew v]) _ _ _
    rw [es]
    cases R with
    | nil =>
      walk_at "q"
      have q := hK [(s, e, v)] rfl (by simp) (fun x hx' => by rw [List.mem_singleton.mp hx']; exact ⟨hx.1, hx.2.1⟩) (some (.str (b s))) (some (bw b n e)) (some (ew v))
      refine q_ifP (fun c => absurd c (by simp)) fun c => ?_
      walk_at "q"
      rw [mset_mset]
      have eL : ([(s, e, v)] : List (Sp β)).reverse.map (en b n ew) = ([] : List (Sp β)).reverse.map (en b n ew) ++ [.tup [.str (b s), bw b n e, ew v]] := by simp [en, es]
      rw [eL] at q
      exact q
    | cons l t =>
      obtain ⟨ls, le, lv⟩ := l
      have eL : (((ls, le, lv) : Sp β) :: t).reverse.map (en b n ew) = t.reverse.map (en b n ew) ++ [.tup [bw b n ls, bw b n le, ew lv]] := by simp [en]
      rw [eL]
      have lR : (t.reverse.map (en b n ew)).length ≤ 5000 := by
        rw [List.length_map, List.length_reverse]
        simp only [List.length_cons] at hr1
        omega
      have pk : pick (t.reverse.map (en b n ew) ++ [.tup [bw b n ls, bw b n le, ew lv]]) (-1) = some (.tup [bw b n ls, bw b n le, ew lv]) := pick_last _ _
      walk_at "q"
      refine q_ifP (fun c => ?_) fun c => ?_
      rotate_left
      · exfalso
        refine c ?_
        rw [List.length_append, List.length_singleton]
        omega
      walk_at "q"
      have hl2 := hr2 (ls, le, lv) List.mem_cons_self
      have lR2 : (t.reverse.map (en b n ew) ++ [W.tup [bw b n ls, bw b n le, ew lv]]).length < 16000000 := by
        rw [List.length_append, List.length_singleton]
        omega
      have hix : ixN (t.reverse.map (en b n ew) ++ [W.tup [bw b n ls, bw b n le, ew lv]]).length (-1) = some (t.reverse.map (en b n ew)).length := by
        rw [ixN_last (by simp)]
        simp
      have app : step (((ls, le, lv) : Sp β) :: t) (s, e, v) = (s, e, v) :: (ls, le, lv) :: t → K (sv (sv (sv [some (W.lst (S.map (en b n ew))), some (W.ref p), x2, x3, x4] 2 (W.str (b s))) 3 (bw b n e)) 4 (ew v))
          (mset (mset μ p (.ls (t.reverse.map (en b n ew) ++ [.tup [bw b n ls, bw b n le, ew lv]]))) p (.ls (t.reverse.map (en b n ew) ++ [.tup [bw b n ls, bw b n le, ew lv]] ++ [.tup [.str (b s), bw b n e, ew v]]))) := fun st => by
        have q := hK _ st (by simp only [List.length_cons, List.length_append, List.length_nil] at hr1 ⊢; omega) (fun x hx' => by
          rcases List.mem_cons.mp hx' with rfl | hx'
          · exact ⟨hx.1, hx.2.1⟩
          · exact hr2 x hx') (some (.str (b s))) (some (bw b n e)) (some (ew v))
        rw [mset_mset]
        have eN : (((s, e, v) : Sp β) :: (ls, le, lv) :: t).reverse.map (en b n ew) = t.reverse.map (en b n ew) ++ [.tup [bw b n ls, bw b n le, ew lv]] ++ [.tup [.str (b s), bw b n e, ew v]] := by simp [en, es]
        rw [eN] at q
        exact q
      simp only at hl2
      refine wEqu_data (bw_D _) rfl ?_
      rw [bw_eq h hl2.2 hx.1]
      refine q_ifP (fun c1 => ?_) fun c1 => ?_
      · walk_at "q"
        refine wEqu_data (hD _) (hD _) ?_
        rw [hw]
        refine q_ifP (fun c2 => ?_) fun c2 => ?_
        · walk_at "q"
          have st : step (((ls, le, lv) : Sp β) :: t) (s, e, v) = (ls, e, v) :: t := if_pos ⟨c1, c2⟩
          have q := hK _ st (by simp only [List.length_cons, List.length_append, List.length_nil] at hr1 ⊢; omega) (fun x hx' => by
            rcases List.mem_cons.mp hx' with rfl | hx'
            · exact ⟨hl2.1, hx.2.1⟩
            · exact hr2 x (List.mem_cons_of_mem _ hx')) (some (.str (b s))) (some (bw b n e)) (some (ew v))
          rw [mset_mset, set_end]
          have eN : (((ls, e, v) : Sp β) :: t).reverse.map (en b n ew) = t.reverse.map (en b n ew) ++ [.tup [bw b n ls, bw b n e, ew v]] := by simp [en]
          rw [eN] at q
          exact q
        · walk_at "q"
          have st : step (((ls, le, lv) : Sp β) :: t) (s, e, v) = (s, e, v) :: (ls, le, lv) :: t := if_neg fun z => c2 z.2
          exact app st
      · walk_at "q"
        have st : step (((ls, le, lv) : Sp β) :: t) (s, e, v) = (s, e, v) :: (ls, le, lv) :: t := if_neg fun z => c1 z.1
        exact app st
  · rintro done ρ μ' ⟨hd, hr1, hr2, rfl, x2, x3, x4, rfl⟩
    rw [List.append_nil] at hd
    subst hd
    refine ⟨rfl, ?_⟩
    walk_at "q"
    exact Rt.now (k p hpn)
end
end Q
namespace Q
open PySem L2
local macro_rules | `(tactic| walk_at "mu") => `(tactic| (repeat (first | exact mset_same | assumption | (rw [mset_ne]; rotate_left; (first | assumption | exact Ne.symm (by assumption))))))
local macro_rules | `(tactic| walk_at "lk") => `(tactic| (repeat (first | exact lk_hit | exact lk_nil | refine lk_skip (by decide +kernel) ?_)))
local macro_rules | `(tactic| walk_at "pf") => `(tactic| (repeat (first | rw [pf_nil] | rw [pf_hit] | (rw [pf_skip]; rotate_left; (focus (decide +kernel; done))))))
local macro_rules | `(tactic| walk_at "q") => `(tactic| ((with_reducible conv => whnf); repeat (first
  | (with_reducible refine q_t (by assumption) ?_; with_reducible conv => whnf)
  | (with_reducible refine q_f (by assumption) ?_; with_reducible conv => whnf)
  | (with_reducible refine q_t (by with_reducible rfl) ?_; with_reducible conv => whnf)
  | (with_reducible refine q_f (by with_reducible rfl) ?_; with_reducible conv => whnf)
  | (with_reducible refine q_t (by decide) ?_; with_reducible conv => whnf)
  | (with_reducible refine q_f (by decide) ?_; with_reducible conv => whnf)
  | (with_reducible refine q_t (decide_eq_true (by omega)) ?_; with_reducible conv => whnf)
  | (with_reducible refine q_f (decide_eq_false (by omega)) ?_; with_reducible conv => whnf)
  | (with_reducible refine q_f (q_nn (by omega)) ?_; with_reducible conv => whnf)
  | (with_reducible refine q_t (q_nt (by omega)) ?_; with_reducible conv => whnf)
  | (with_reducible refine q_len (by with_unfolding_all rfl) ?_; with_reducible conv => whnf)
  | (with_reducible refine q_leq (by with_unfolding_all rfl) ?_; with_reducible conv => whnf)
  | (with_reducible refine q_and (by first | assumption | exact True.intro | omega | (simp only [List.length_map, List.length_append, List.length_cons, List.length_nil]; omega) | decide) ?_; with_reducible conv => whnf)
  | (with_reducible refine q_le (by with_unfolding_all rfl) ?_; with_reducible conv => whnf)
  | (with_reducible refine q_and tyL_lst ?_; with_reducible conv => whnf)
  | (with_reducible refine q_and tyL_rol ?_; with_reducible conv => whnf)
  | (with_reducible refine q_and (tyL_ref (by walk_at "mu")) ?_; with_reducible conv => whnf)
  | (with_reducible refine q_and (tyD_ref (by walk_at "mu")) ?_; with_reducible conv => whnf)
  | (with_reducible refine q_and (rdD_ref (by walk_at "mu")) ?_; with_reducible conv => whnf)
  | (rw [pick_c0]; with_reducible conv => whnf)
  | (rw [pick_c1]; with_reducible conv => whnf)
  | (rw [pick_c2]; with_reducible conv => whnf)
  | (rw [pick_c3]; with_reducible conv => whnf)
  | (rw [pick_c4]; with_reducible conv => whnf)
  | (rw [pick_c5]; with_reducible conv => whnf)
  | (rw [mset_same]; with_reducible conv => whnf)
  | (rw [mset_ne (by assumption)]; with_reducible conv => whnf)
  | (rw [mset_ne]; rotate_left; (first | assumption | exact Ne.symm (by assumption)); with_reducible conv => whnf)
  | (rw [rdL_ref]; rotate_left; (focus (walk_at "mu"; done)); with_reducible conv => whnf)
  | (rw [rdL_refD]; rotate_left; (focus (walk_at "mu"; done)); with_reducible conv => whnf)
  | (rw [rdD_refD]; rotate_left; (focus (walk_at "mu"; done)); with_reducible conv => whnf)
  | (rw [rdM_ref]; rotate_left; (focus (walk_at "mu"; done)); with_reducible conv => whnf)
  | (rw [rdL_refK]; rotate_left; (focus (walk_at "mu"; done)); with_reducible conv => whnf)
  | (rw [rdD_refK]; rotate_left; (focus (walk_at "mu"; done)); with_reducible conv => whnf)
  | (rw [tyW_refL]; rotate_left; (focus (walk_at "mu"; done)); with_reducible conv => whnf)
  | (rw [tyW_refD]; rotate_left; (focus (walk_at "mu"; done)); with_reducible conv => whnf)
  | (rw [drf_ref]; rotate_left; (focus (walk_at "mu"; done)); with_reducible conv => whnf)
  | ((conv => (arg 2; tactic' => (walk_at "mu"; done))); with_reducible conv => whnf)
  | (with_reducible refine q_and (Eq.refl _) ?_; with_reducible conv => whnf)
  | (with_reducible refine q_and (MulO.r (by decide)) ?_; with_reducible conv => whnf)
  | (with_reducible refine q_and (MulO.l (by decide)) ?_; with_reducible conv => whnf)
  | (with_reducible refine q_and (MulO.r (by omega)) ?_; with_reducible conv => whnf)
  | (with_reducible refine q_and (MulO.l (by omega)) ?_; with_reducible conv => whnf)
  | (with_reducible refine q_pow (by decide) ?_; with_reducible conv => whnf)
  | (with_reducible refine q_nisT (by first | assumption | with_reducible rfl) ?_; with_reducible conv => whnf)
  | (with_reducible refine q_nisF (by first | assumption | with_reducible rfl) ?_; with_reducible conv => whnf)
  | (with_reducible refine q_eqI ?_; with_reducible conv => whnf)
  | (with_reducible refine q_eqS ?_; with_reducible conv => whnf)
  | (with_reducible refine q_eqB ?_; with_reducible conv => whnf)
  | (with_reducible refine q_neI ?_; with_reducible conv => whnf)
  | (with_reducible refine q_neS ?_; with_reducible conv => whnf)
  | (with_reducible refine q_neB ?_; with_reducible conv => whnf)
  | (with_reducible refine q_memc ?_; with_reducible conv => whnf)
  | (with_reducible refine q_lkn (by walk_at "lk") ?_; with_reducible conv => whnf)
  | (with_reducible refine q_tix (by walk_at "lk"; done) ?_; with_reducible conv => whnf)
  | (with_reducible refine q_tin ?_; with_reducible conv => whnf)
  | (rw [pf_hit]; with_reducible conv => whnf)
  | (rw [pf_skip]; rotate_left; (focus (decide +kernel; done)); with_reducible conv => whnf)
  | (rw [lk_hit]; with_reducible conv => whnf)
  | (rw [lk_skip1]; rotate_left; (focus (decide +kernel; done)); with_reducible conv => whnf))))
/-! k48: reports, Routes -/
section
open Mspan
structure Rep where
  lo : Str
  hi : Option Str
  ep : Int
  x : Int
  y : Int
  mid : Str
deriving DecidableEq
def ew (r : Rep) : W := .tup [.str r.lo, oS r.hi, .int r.ep, .int r.x, .int r.y, .str r.mid]
theorem eqW_oS (a b : Option Str) : eqW (oS a) (oS b) = decide (a = b) := by
  cases a <;> cases b
  · rfl
  · simp [eqW]
  · simp [eqW]
  · rename_i x y
    show (x == y) = _
    by_cases c : x = y
    · simp [c]
    · rw [beq_eq_false_iff_ne.mpr c, decide_eq_false fun z => c (Option.some.inj z)]
theorem ew_eq (v u : Rep) : eqW (ew v) (ew u) = decide (v = u) := by
  obtain ⟨a1, a2, a3, a4, a5, a6⟩ := v
  obtain ⟨b1, b2, b3, b4, b5, b6⟩ := u
  show (eqW (.str a1) (.str b1) && (eqW (oS a2) (oS b2) && (eqW (.int a3) (.int b3) && (eqW (.int a4) (.int b4) && (eqW (.int a5) (.int b5) && (eqW (.str a6) (.str b6) && true)))))) = _
  rw [eqW_oS]
  simp only [eqW, Rep.mk.injEq, Bool.and_true, Bool.decide_and]
  rfl
theorem ew_D (v : Rep) : isD 60 (ew v) = true := by
  obtain ⟨a1, a2, a3, a4, a5, a6⟩ := v
  cases a2 <;> rfl
def b9 (i : Nat) : Str := (["", "b", "c", "d", "da", "e", "f", "m", "zz"] : List Str).getD i ""
theorem inc9 : Inc b9 9 := fun i j h1 h2 => by
  have key : ∀ j : Fin 9, ∀ i : Fin 9, i < j → sLt (b9 i.1) (b9 j.1) = true := by decide +kernel
  exact key ⟨j, h2⟩ ⟨i, by omega⟩ h1
/-- a span of reports as a row -/
abbrev enR : Sp Rep → W := en b9 9 ew
/-- the newer one -/
def nw (r o : Rep) : Rep := if o.ep ≤ r.ep then r else o
theorem sp_newer {o r : Rep} {μ : Mu} {P : Po} {X : Xo} (h : P (ew (nw r o)) μ) : f__newer [ew o, ew r] μ P X := by
  rw [f__newer_eq]; unfold f__newer_B fDef
  refine ⟨rfl, ?_⟩
  unfold nw at h
  obtain ⟨a1, a2, a3, a4, a5, a6⟩ := o
  obtain ⟨b1, b2, b3, b4, b5, b6⟩ := r
  unfold ew at *
  walk_at "q"
  refine q_ifP (fun c => ?_) fun c => ?_
  · rw [if_pos c] at h
    exact Rt.now h
  · rw [if_neg c] at h
    exact Rt.now h
/-- a report of a range of the bounds -/
def RepAt (r : Rep) (lo hi : Nat) : Prop := r.lo = b9 lo ∧ r.hi = bo b9 9 hi ∧ lo < hi ∧ hi ≤ 9
def insR (p : Addr) : O := .ins "Routes" [("_pieces", .ref p)]
theorem len_fill {β : Type} {w : β} {hi : Nat} : ∀ (S : List (Sp β)) (a : Nat), (fill w hi a S).length ≤ 2 * S.length + 1
  | [], a => by
    unfold fill
    split <;> simp
  | x :: S, a => by
    have := len_fill (w := w) (hi := hi) S x.2.1
    unfold fill
    rw [List.length_append, List.length_cons, List.length_cons]
    split <;> simp <;> omega
theorem sp_add {S : List (Sp Rep)} {r : Rep} {lo hi : Nat} {R a Pt : Addr} {μ : Mu} {P : Po} {X : Xo} (hr : RepAt r lo hi) (hR : μ R = some (insR a)) (ha : μ a = some (.ls (S.map enR))) (hT : μ Pt = some (.tb ("fused", none) ("fused" ++ ".<locals>." ++ "<lambda>")))
    (hp : Pos S) (hs : Asc S) (hS : ∀ x ∈ S, x.2.1 ≤ 9) (hl : S.length ≤ 9)
    (k : ∀ p, μ p = none → P .non (mset (mset μ p (.ls ((fuse (srt (acted lo hi r (nw r) S))).map enR))) R (insR p))) : f_Routes_add_2 [.ref R, ew r] μ P X := by
  obtain ⟨e1, e2, hlh, h9⟩ := hr
  have eR : ew r = .tup [.str (b9 lo), bw b9 9 hi, .int r.ep, .int r.x, .int r.y, .str r.mid] := by
    unfold ew
    rw [e1, e2]
  rw [f_Routes_add_2_eq]; unfold f_Routes_add_2_B fDef
  refine ⟨rfl, ?_⟩
  rw [eR]
  unfold insR at hR
  walk_at "q"
  refine sp_apart inc9 ha hp hS (by omega) hlh h9 fun p1 q1 hp1 hq1 n1 => ?_
  walk_at "q"
  rw [← eR]
  have fI := fill_ok (w := r) (Nat.le_of_lt hlh) (pos_in hlh hp) (asc_in (lo := lo) (hi := hi) hs) inR_in
  have l1 := len_in (lo := lo) (hi := hi) S
  have l2 := len_out (lo := lo) (hi := hi) S
  have g1 : mset (mset μ p1 (.ls ((S.flatMap (inS lo hi)).map (en b9 9 ew)))) q1 (.ls ((S.flatMap (outS lo hi)).map (en b9 9 ew))) p1 = some (.ls ((S.flatMap (inS lo hi)).map (en b9 9 ew))) := by rw [mset_ne (Ne.symm n1), mset_same]
  refine sp_filled inc9 g1 (pos_in hlh hp) (asc_in hs) inR_in (by omega) hlh h9 fun p2 hp2 => ?_
  obtain ⟨n2, hp2⟩ := new_ne hp2
  obtain ⟨n3, hp2⟩ := new_ne hp2
  walk_at "q"
  refine lcV_m (en b9 9 ew) (fun x => en b9 9 ew (upw (nw r) x)) (fill r hi lo (S.flatMap (inS lo hi))) ?_ ?_ (fun x hx μ' he Y hY => ?_) ?_
  · have := len_fill (w := r) (hi := hi) (S.flatMap (inS lo hi)) lo
    omega
  · exact fun μ' he => rdL_ref (he _ _ mset_same)
  · obtain ⟨s, e, v⟩ := x
    show gT 3 _ (.tup [bw b9 9 s, bw b9 9 e, ew v]) _ _ _
    walk_at "q"
    refine sp_newer ?_
    walk_at "q"
    exact hY
  · walk_at "q"
    have l3 := len_fill (w := r) (hi := hi) (S.flatMap (inS lo hi)) lo
    refine ⟨by rw [List.length_map, List.length_map]; omega, ?_⟩
    walk_at "q"
    have eA : (S.flatMap (outS lo hi)).map (en b9 9 ew) ++ (fill r hi lo (S.flatMap (inS lo hi))).map (fun x => en b9 9 ew (upw (nw r) x)) = (acted lo hi r (nw r) S).map (en b9 9 ew) := by
      unfold acted
      rw [List.map_append, List.map_map]
      rfl
    rw [eA]
    obtain ⟨a1, a2, a3⟩ := acted_ok (w := r) (g := nw r) hlh hp hs (srt_perm (acted lo hi r (nw r) S)) (srt_le _)
    have pA : Pos (acted lo hi r (nw r) S) := fun x hx => a1 x ((srt_perm _).mem_iff.mpr hx)
    have eA9 : ∀ x ∈ acted lo hi r (nw r) S, x.2.1 ≤ 9 := fun x hx => by
      rcases List.mem_append.mp hx with hx | hx
      · obtain ⟨y, hy, h'⟩ := List.mem_flatMap.mp hx
        have := hS y hy
        rcases mem_out.mp h' with ⟨c, rfl⟩ | ⟨c, rfl⟩
        · show min y.2.1 lo ≤ 9
          omega
        · exact this
      · obtain ⟨y, hy, rfl⟩ := List.mem_map.mp hx
        have := (fI.2.2.1 y hy).2
        show y.2.1 ≤ 9
        omega
    have lA : (acted lo hi r (nw r) S).length ≤ 5000 := by
      unfold acted
      rw [List.length_append, List.length_map]
      omega
    have tn : ∀ z, μ z = none → z ≠ Pt := fun z hz e => by
      rw [e, hT] at hz
      cases hz
    refine sp_fused inc9 (Pt := Pt) ew_eq ew_D (by rw [mset_ne (Ne.symm (tn p2 hp2)), mset_ne (Ne.symm (tn q1 hq1)), mset_ne (Ne.symm (tn p1 hp1)), hT]) pA eA9 lA fun p hpn => ?_
    obtain ⟨m1, hpn⟩ := new_ne hpn
    obtain ⟨m2, hpn⟩ := new_ne hpn
    obtain ⟨m3, hpn⟩ := new_ne hpn
    have rn : ∀ z, μ z = none → z ≠ R := fun z hz e => by
      rw [e, hR] at hz
      cases hz
    have r1 := rn p1 hp1
    have r2 := rn q1 hq1
    have r3 := rn p2 hp2
    have r4 := rn p hpn
    walk_at "q"
    refine ⟨_, mset (mset μ p (.ls ((fuse (srt (acted lo hi r (nw r) S))).map enR))) R (insR p), fun b o hb => ?_, .same _, k p hpn⟩
    by_cases b1 : b = R
    · rw [b1, mset_same] at hb ⊢
      exact hb
    · rw [mset_ne b1] at hb ⊢
      by_cases b2 : b = p
      · rw [b2, mset_same] at hb ⊢
        exact hb
      · rw [mset_ne b2] at hb ⊢
        have no : ∀ z, μ z = none → b ≠ z := fun z hz e => by
          rw [e, hz] at hb
          cases hb
        rw [mset_ne (no p2 hp2), mset_ne (no q1 hq1), mset_ne (no p1 hp1)]
        exact hb
end
end Q
namespace Q
open PySem L2
local macro_rules | `(tactic| walk_at "mu") => `(tactic| (repeat (first | exact mset_same | assumption | (rw [mset_ne]; rotate_left; (first | assumption | exact Ne.symm (by assumption))))))
local macro_rules | `(tactic| walk_at "lk") => `(tactic| (repeat (first | exact lk_hit | exact lk_nil | refine lk_skip (by decide +kernel) ?_)))
local macro_rules | `(tactic| walk_at "pf") => `(tactic| (repeat (first | rw [pf_nil] | rw [pf_hit] | (rw [pf_skip]; rotate_left; (focus (decide +kernel; done))))))
local macro_rules | `(tactic| walk_at "q") => `(tactic| ((with_reducible conv => whnf); repeat (first
  | (with_reducible refine q_t (by assumption) ?_; with_reducible conv => whnf)
  | (with_reducible refine q_f (by assumption) ?_; with_reducible conv => whnf)
  | (with_reducible refine q_t (by with_reducible rfl) ?_; with_reducible conv => whnf)
  | (with_reducible refine q_f (by with_reducible rfl) ?_; with_reducible conv => whnf)
  | (with_reducible refine q_t (by decide) ?_; with_reducible conv => whnf)
  | (with_reducible refine q_f (by decide) ?_; with_reducible conv => whnf)
  | (with_reducible refine q_t (decide_eq_true (by omega)) ?_; with_reducible conv => whnf)
  | (with_reducible refine q_f (decide_eq_false (by omega)) ?_; with_reducible conv => whnf)
  | (with_reducible refine q_f (q_nn (by omega)) ?_; with_reducible conv => whnf)
  | (with_reducible refine q_t (q_nt (by omega)) ?_; with_reducible conv => whnf)
  | (with_reducible refine q_len (by with_unfolding_all rfl) ?_; with_reducible conv => whnf)
  | (with_reducible refine q_leq (by with_unfolding_all rfl) ?_; with_reducible conv => whnf)
  | (with_reducible refine q_and (by first | assumption | exact True.intro | omega | (simp only [List.length_map, List.length_append, List.length_cons, List.length_nil]; omega) | decide) ?_; with_reducible conv => whnf)
  | (with_reducible refine q_le (by with_unfolding_all rfl) ?_; with_reducible conv => whnf)
  | (with_reducible refine q_and tyL_lst ?_; with_reducible conv => whnf)
  | (with_reducible refine q_and tyL_rol ?_; with_reducible conv => whnf)
  | (with_reducible refine q_and (tyL_ref (by walk_at "mu")) ?_; with_reducible conv => whnf)
  | (with_reducible refine q_and (tyD_ref (by walk_at "mu")) ?_; with_reducible conv => whnf)
  | (with_reducible refine q_and (rdD_ref (by walk_at "mu")) ?_; with_reducible conv => whnf)
  | (rw [pick_c0]; with_reducible conv => whnf)
  | (rw [pick_c1]; with_reducible conv => whnf)
  | (rw [pick_c2]; with_reducible conv => whnf)
  | (rw [pick_c3]; with_reducible conv => whnf)
  | (rw [pick_c4]; with_reducible conv => whnf)
  | (rw [pick_c5]; with_reducible conv => whnf)
  | (rw [mset_same]; with_reducible conv => whnf)
  | (rw [mset_ne (by assumption)]; with_reducible conv => whnf)
  | (rw [mset_ne]; rotate_left; (first | assumption | exact Ne.symm (by assumption)); with_reducible conv => whnf)
  | (rw [rdL_ref]; rotate_left; (focus (walk_at "mu"; done)); with_reducible conv => whnf)
  | (rw [rdL_refD]; rotate_left; (focus (walk_at "mu"; done)); with_reducible conv => whnf)
  | (rw [rdD_refD]; rotate_left; (focus (walk_at "mu"; done)); with_reducible conv => whnf)
  | (rw [rdM_ref]; rotate_left; (focus (walk_at "mu"; done)); with_reducible conv => whnf)
  | (rw [rdL_refK]; rotate_left; (focus (walk_at "mu"; done)); with_reducible conv => whnf)
  | (rw [rdD_refK]; rotate_left; (focus (walk_at "mu"; done)); with_reducible conv => whnf)
  | (rw [tyW_refL]; rotate_left; (focus (walk_at "mu"; done)); with_reducible conv => whnf)
  | (rw [tyW_refD]; rotate_left; (focus (walk_at "mu"; done)); with_reducible conv => whnf)
  | (rw [drf_ref]; rotate_left; (focus (walk_at "mu"; done)); with_reducible conv => whnf)
  | ((conv => (arg 2; tactic' => (walk_at "mu"; done))); with_reducible conv => whnf)
  | (with_reducible refine q_and (Eq.refl _) ?_; with_reducible conv => whnf)
  | (with_reducible refine q_and (MulO.r (by decide)) ?_; with_reducible conv => whnf)
  | (with_reducible refine q_and (MulO.l (by decide)) ?_; with_reducible conv => whnf)
  | (with_reducible refine q_and (MulO.r (by omega)) ?_; with_reducible conv => whnf)
  | (with_reducible refine q_and (MulO.l (by omega)) ?_; with_reducible conv => whnf)
  | (with_reducible refine q_pow (by decide) ?_; with_reducible conv => whnf)
  | (with_reducible refine q_nisT (by first | assumption | with_reducible rfl) ?_; with_reducible conv => whnf)
  | (with_reducible refine q_nisF (by first | assumption | with_reducible rfl) ?_; with_reducible conv => whnf)
  | (with_reducible refine q_eqI ?_; with_reducible conv => whnf)
  | (with_reducible refine q_eqS ?_; with_reducible conv => whnf)
  | (with_reducible refine q_eqB ?_; with_reducible conv => whnf)
  | (with_reducible refine q_neI ?_; with_reducible conv => whnf)
  | (with_reducible refine q_neS ?_; with_reducible conv => whnf)
  | (with_reducible refine q_neB ?_; with_reducible conv => whnf)
  | (with_reducible refine q_memc ?_; with_reducible conv => whnf)
  | (with_reducible refine q_lkn (by walk_at "lk") ?_; with_reducible conv => whnf)
  | (with_reducible refine q_tix (by walk_at "lk"; done) ?_; with_reducible conv => whnf)
  | (with_reducible refine q_tin ?_; with_reducible conv => whnf)
  | (rw [pf_hit]; with_reducible conv => whnf)
  | (rw [pf_skip]; rotate_left; (focus (decide +kernel; done)); with_reducible conv => whnf)
  | (rw [lk_hit]; with_reducible conv => whnf)
  | (rw [lk_skip1]; rotate_left; (focus (decide +kernel; done)); with_reducible conv => whnf))))
/-! k48: find, drop, pieces; the law's own defs -/
section
open Mspan
/-- the piece has the place -/
def hasB (z : Str) (x : Sp Rep) : Bool := !sLt z (b9 x.1) && belowB z (bo b9 9 x.2.1)
theorem sp_contains {s e : Nat} {v : Rep} {z : Str} (hs : s < 9) {μ : Mu} {P : Po} {X : Xo} (h : P (.bl (hasB z (s, e, v))) μ) : f_contains [bw b9 9 s, bw b9 9 e, .str z] μ P X := by
  rw [f_contains_eq]; unfold f_contains_B fDef
  refine ⟨rfl, ?_⟩
  rw [bw_lt hs]
  unfold hasB at h
  walk_at "q"
  refine q_if (fun c => ?_) fun c => ?_
  · walk_at "q"
    refine sp_below ?_
    rw [c] at h
    exact Rt.now h
  · walk_at "q"
    rw [c] at h
    exact Rt.now h
def findW (S : List (Sp Rep)) (z : Str) : W := match S.find? (hasB z) with
  | some x => enR x
  | none => .non
theorem findW_some {S : List (Sp Rep)} {z : Str} {x : Sp Rep} (h : S.find? (hasB z) = some x) : findW S z = enR x := by
  unfold findW
  rw [h]
theorem findW_none {S : List (Sp Rep)} {z : Str} (h : S.find? (hasB z) = none) : findW S z = .non := by
  unfold findW
  rw [h]
theorem sp_find {S : List (Sp Rep)} {R a : Addr} {z : Str} {μ : Mu} {P : Po} {X : Xo} (hR : μ R = some (insR a)) (ha : μ a = some (.ls (S.map enR))) (hS : ∀ x ∈ S, x.1 < 9) (h : P (findW S z) μ) : f_Routes_find [.ref R, .str z] μ P X := by
  rw [f_Routes_find_eq]; unfold f_Routes_find_B fDef
  refine ⟨rfl, ?_⟩
  unfold insR at hR
  walk_at "q"
  refine itS_find enR (hasB z) enR (fun ρ => ∃ x2 : Option W, ρ = [some (.ref R), some (.str z), x2]) (rdL_ref ha) S ⟨none, rfl⟩ ?_ ?_ ?_
  · rintro ⟨s, e, v⟩ hx ρ ⟨x2, rfl⟩ K hK hY
    show gN 2 (.tup [bw b9 9 s, bw b9 9 e, ew v]) _ _ _
    walk_at "q"
    refine sp_contains (v := v) (hS _ hx) ?_
    refine q_if (fun c => ?_) fun c => ?_
    · walk_at "q"
      exact hY c
    · walk_at "q"
      exact hK c _ ⟨_, rfl⟩
  · rintro e ρ ⟨x2, rfl⟩
    rw [findW_none e] at h
    walk_at "q"
    exact Rt.now h
  · intro x e
    rw [findW_some e] at h
    exact Rt.now h
theorem sp_drop {S : List (Sp Rep)} {R a : Addr} {z : Str} {μ : Mu} {P : Po} {X : Xo} (hR : μ R = some (insR a)) (ha : μ a = some (.ls (S.map enR))) (hS : ∀ x ∈ S, x.1 < 9) (hl : S.length ≤ 1000)
    (k : ∀ p, μ p = none → P .non (mset (mset μ p (.ls ((S.filter fun x => !hasB z x).map enR))) R (insR p))) : f_Routes_drop_2 [.ref R, .str z] μ P X := by
  rw [f_Routes_drop_2_eq]; unfold f_Routes_drop_2_B fDef
  refine ⟨rfl, ?_⟩
  unfold insR at hR
  walk_at "q"
  refine lcR_tm enR enR (fun x => !hasB z x) S (by omega) (fun μ' he => rdL_ref (he _ _ ha)) (fun x hx μ' he N Y hn hy => ?_) fun p hpn => ?_
  · obtain ⟨s, e, v⟩ := x
    show gN 2 (.tup [bw b9 9 s, bw b9 9 e, ew v]) _ _ _
    walk_at "q"
    refine sp_contains (v := v) (hS _ hx) ?_
    cases c : hasB z (s, e, v) with
    | true =>
      walk_at "q"
      exact hn (by rw [c]; rfl)
    | false =>
      walk_at "q"
      exact hy (by rw [c]; rfl)
  · have rn : p ≠ R := fun e => by
      rw [e, hR] at hpn
      cases hpn
    walk_at "q"
    exact Rt.now (k p hpn)
theorem sp_pieces {S : List (Sp Rep)} {R a : Addr} {μ : Mu} {P : Po} {X : Xo} (hR : μ R = some (insR a)) (ha : μ a = some (.ls (S.map enR))) (hl : S.length ≤ 1000) (k : ∀ p, μ p = none → P (.ref p) (mset μ p (.ls (S.map enR)))) : f_Routes_pieces_2 [.ref R] μ P X := by
  rw [f_Routes_pieces_2_eq]; unfold f_Routes_pieces_2_B fDef
  refine ⟨rfl, ?_⟩
  unfold insR at hR
  have rA : rdA μ (.ref a) = some (S.map enR) := rdL_ref ha
  walk_at "q"
  intro p hpn
  exact Rt.now (k p hpn)
/-! what the law knows: a call and its report for each of the nine cells -/
abbrev Cell : Type := Option (Int × Rep)
def cellU (L : List Cell) (i : Nat) : Option (Sp Rep) := match L[i]? with
  | some (some (_, r)) => some (i, i + 1, r)
  | _ => none
def upTo (L : List Cell) (k : Nat) : List (Sp Rep) := (List.range k).filterMap (cellU L)
/-- equal reports are of one call -/
def OneCall (L : List Cell) : Prop := ∀ (i j : Nat) (a c : Int) (r : Rep), L[i]? = some (some (a, r)) → L[j]? = some (some (c, r)) → a = c
theorem upTo_succ {L : List Cell} {k : Nat} : upTo L (k + 1) = upTo L k ++ (match cellU L k with
    | some x => [x]
    | none => []) := by
  unfold upTo
  rw [List.range_succ, List.filterMap_append]
  cases h : cellU L k with
  | none => simp [h]
  | some x => simp [h]
end
end Q
namespace Q
open PySem L2
local macro_rules | `(tactic| walk_at "mu") => `(tactic| (repeat (first | exact mset_same | assumption | (rw [mset_ne]; rotate_left; (first | assumption | exact Ne.symm (by assumption))))))
local macro_rules | `(tactic| walk_at "lk") => `(tactic| (repeat (first | exact lk_hit | exact lk_nil | refine lk_skip (by decide +kernel) ?_)))
local macro_rules | `(tactic| walk_at "pf") => `(tactic| (repeat (first | rw [pf_nil] | rw [pf_hit] | (rw [pf_skip]; rotate_left; (focus (decide +kernel; done))))))
local macro_rules | `(tactic| walk_at "q") => `(tactic| ((with_reducible conv => whnf); repeat (first
  | (with_reducible refine q_t (by assumption) ?_; with_reducible conv => whnf)
  | (with_reducible refine q_f (by assumption) ?_; with_reducible conv => whnf)
  | (with_reducible refine q_t (by with_reducible rfl) ?_; with_reducible conv => whnf)
  | (with_reducible refine q_f (by with_reducible rfl) ?_; with_reducible conv => whnf)
  | (with_reducible refine q_t (by decide) ?_; with_reducible conv => whnf)
  | (with_reducible refine q_f (by decide) ?_; with_reducible conv => whnf)
  | (with_reducible refine q_t (decide_eq_true (by omega)) ?_; with_reducible conv => whnf)
  | (with_reducible refine q_f (decide_eq_false (by omega)) ?_; with_reducible conv => whnf)
  | (with_reducible refine q_f (q_nn (by omega)) ?_; with_reducible conv => whnf)
  | (with_reducible refine q_t (q_nt (by omega)) ?_; with_reducible conv => whnf)
  | (with_reducible refine q_len (by with_unfolding_all rfl) ?_; with_reducible conv => whnf)
  | (with_reducible refine q_leq (by with_unfolding_all rfl) ?_; with_reducible conv => whnf)
  | (with_reducible refine q_and (by first | assumption | exact True.intro | omega | (simp only [List.length_map, List.length_append, List.length_cons, List.length_nil]; omega) | decide) ?_; with_reducible conv => whnf)
  | (with_reducible refine q_le (by with_unfolding_all rfl) ?_; with_reducible conv => whnf)
  | (with_reducible refine q_and tyL_lst ?_; with_reducible conv => whnf)
  | (with_reducible refine q_and tyL_rol ?_; with_reducible conv => whnf)
  | (with_reducible refine q_and (tyL_ref (by walk_at "mu")) ?_; with_reducible conv => whnf)
  | (with_reducible refine q_and (tyD_ref (by walk_at "mu")) ?_; with_reducible conv => whnf)
  | (with_reducible refine q_and (rdD_ref (by walk_at "mu")) ?_; with_reducible conv => whnf)
  | (rw [pick_c0]; with_reducible conv => whnf)
  | (rw [pick_c1]; with_reducible conv => whnf)
  | (rw [pick_c2]; with_reducible conv => whnf)
  | (rw [pick_c3]; with_reducible conv => whnf)
  | (rw [pick_c4]; with_reducible conv => whnf)
  | (rw [pick_c5]; with_reducible conv => whnf)
  | (rw [mset_same]; with_reducible conv => whnf)
  | (rw [mset_ne (by assumption)]; with_reducible conv => whnf)
  | (rw [mset_ne]; rotate_left; (first | assumption | exact Ne.symm (by assumption)); with_reducible conv => whnf)
  | (rw [rdL_ref]; rotate_left; (focus (walk_at "mu"; done)); with_reducible conv => whnf)
  | (rw [rdL_refD]; rotate_left; (focus (walk_at "mu"; done)); with_reducible conv => whnf)
  | (rw [rdD_refD]; rotate_left; (focus (walk_at "mu"; done)); with_reducible conv => whnf)
  | (rw [rdM_ref]; rotate_left; (focus (walk_at "mu"; done)); with_reducible conv => whnf)
  | (rw [rdL_refK]; rotate_left; (focus (walk_at "mu"; done)); with_reducible conv => whnf)
  | (rw [rdD_refK]; rotate_left; (focus (walk_at "mu"; done)); with_reducible conv => whnf)
  | (rw [tyW_refL]; rotate_left; (focus (walk_at "mu"; done)); with_reducible conv => whnf)
  | (rw [tyW_refD]; rotate_left; (focus (walk_at "mu"; done)); with_reducible conv => whnf)
  | (rw [drf_ref]; rotate_left; (focus (walk_at "mu"; done)); with_reducible conv => whnf)
  | ((conv => (arg 2; tactic' => (walk_at "mu"; done))); with_reducible conv => whnf)
  | (with_reducible refine q_and (Eq.refl _) ?_; with_reducible conv => whnf)
  | (with_reducible refine q_and (MulO.r (by decide)) ?_; with_reducible conv => whnf)
  | (with_reducible refine q_and (MulO.l (by decide)) ?_; with_reducible conv => whnf)
  | (with_reducible refine q_and (MulO.r (by omega)) ?_; with_reducible conv => whnf)
  | (with_reducible refine q_and (MulO.l (by omega)) ?_; with_reducible conv => whnf)
  | (with_reducible refine q_pow (by decide) ?_; with_reducible conv => whnf)
  | (with_reducible refine q_nisT (by first | assumption | with_reducible rfl) ?_; with_reducible conv => whnf)
  | (with_reducible refine q_nisF (by first | assumption | with_reducible rfl) ?_; with_reducible conv => whnf)
  | (with_reducible refine q_eqI ?_; with_reducible conv => whnf)
  | (with_reducible refine q_eqS ?_; with_reducible conv => whnf)
  | (with_reducible refine q_eqB ?_; with_reducible conv => whnf)
  | (with_reducible refine q_neI ?_; with_reducible conv => whnf)
  | (with_reducible refine q_neS ?_; with_reducible conv => whnf)
  | (with_reducible refine q_neB ?_; with_reducible conv => whnf)
  | (with_reducible refine q_memc ?_; with_reducible conv => whnf)
  | (with_reducible refine q_lkn (by walk_at "lk") ?_; with_reducible conv => whnf)
  | (with_reducible refine q_tix (by walk_at "lk"; done) ?_; with_reducible conv => whnf)
  | (with_reducible refine q_tin ?_; with_reducible conv => whnf)
  | (rw [pf_hit]; with_reducible conv => whnf)
  | (rw [pf_skip]; rotate_left; (focus (decide +kernel; done)); with_reducible conv => whnf)
  | (rw [lk_hit]; with_reducible conv => whnf)
  | (rw [lk_skip1]; rotate_left; (focus (decide +kernel; done)); with_reducible conv => whnf))))
/-! k48: what the law adds and drops -/
section
open Mspan
/-- a cell after a report of a call -/
def upC (m : Int) (r : Rep) (lo hi i : Nat) (c : Cell) : Cell := if lo ≤ i ∧ i < hi then (match c with
  | none => some (m, r)
  | some (_, o) => if o.ep ≤ r.ep then some (m, r) else c) else c
/-- the cells below k are done -/
def DoneC (f : Nat → Cell → Cell) (L L' : List Cell) (k : Nat) : Prop := L'.length = 9 ∧ ∀ i, L'[i]? = if i < k then (L[i]?).map (f i) else L[i]?
theorem DoneC.keep {f : Nat → Cell → Cell} {L L' : List Cell} {k : Nat} {c : Cell} (h : DoneC f L L' k) (hc : L[k]? = some c) (e : f k c = c) : DoneC f L L' (k + 1) := by
  refine ⟨h.1, fun i => ?_⟩
  rw [h.2 i]
  by_cases d : i < k
  · rw [if_pos d, if_pos (by omega)]
  · rw [if_neg d]
    by_cases d2 : i = k
    · rw [if_pos (by omega), d2, hc]
      exact congrArg some e.symm
    · rw [if_neg (by omega)]
theorem DoneC.put {f : Nat → Cell → Cell} {L L' : List Cell} {k : Nat} {c : Cell} (h : DoneC f L L' k) (hk : k < 9) (hc : L[k]? = some c) : DoneC f L (L'.set k (f k c)) (k + 1) := by
  refine ⟨by rw [List.length_set]; exact h.1, fun i => ?_⟩
  rw [List.getElem?_set]
  by_cases d : k = i
  · rw [if_pos d, if_pos (by rw [h.1]; exact hk), if_pos (by omega), ← d, hc]
    rfl
  · rw [if_neg d, h.2 i]
    by_cases d2 : i < k
    · rw [if_pos d2, if_pos (by omega)]
    · rw [if_neg d2, if_neg (by omega)]
theorem cellU_some {L : List Cell} {i : Nat} {x : Sp Rep} : cellU L i = some x ↔ ∃ m r, L[i]? = some (some (m, r)) ∧ x = (i, i + 1, r) := by
  unfold cellU
  constructor
  · intro h
    split at h
    · rename_i m r e
      exact ⟨m, r, e, (Option.some.inj h).symm⟩
    · cases h
  · rintro ⟨m, r, e, rfl⟩
    rw [e]
theorem mem_upTo {L : List Cell} {n : Nat} {x : Sp Rep} : x ∈ upTo L n ↔ ∃ i, i < n ∧ ∃ m r, L[i]? = some (some (m, r)) ∧ x = (i, i + 1, r) := by
  unfold upTo
  rw [List.mem_filterMap]
  constructor
  · rintro ⟨i, hi, h⟩
    exact ⟨i, List.mem_range.mp hi, cellU_some.mp h⟩
  · rintro ⟨i, hi, h⟩
    exact ⟨i, List.mem_range.mpr hi, cellU_some.mpr h⟩
theorem upTo_pos {L : List Cell} {n : Nat} : Pos (upTo L n) := fun x hx => by
  obtain ⟨i, _, m, r, _, rfl⟩ := mem_upTo.mp hx
  exact Nat.lt_succ_self i
theorem upTo_asc {L : List Cell} : ∀ n, Asc (upTo L n)
  | 0 => .nil
  | n + 1 => by
    rw [upTo_succ]
    refine List.pairwise_append.mpr ⟨upTo_asc n, ?_, fun x hx y hy => ?_⟩
    · split
      · exact List.pairwise_singleton _ _
      · exact .nil
    · obtain ⟨i, hi, m, r, _, rfl⟩ := mem_upTo.mp hx
      split at hy
      · rename_i z e
        rw [List.mem_singleton.mp hy]
        obtain ⟨_, _, _, rfl⟩ := cellU_some.mp e
        exact hi
      · cases hy
theorem has_upTo {L : List Cell} {n k : Nat} {w : Rep} : Has (upTo L n) k w ↔ k < n ∧ ∃ m, L[k]? = some (some (m, w)) := by
  constructor
  · rintro ⟨x, hx, h1, h2, h3⟩
    obtain ⟨i, hi, m, r, e, rfl⟩ := mem_upTo.mp hx
    simp only at h1 h2 h3
    have : k = i := by omega
    subst this
    subst h3
    exact ⟨hi, m, e⟩
  · rintro ⟨h1, m, e⟩
    exact ⟨(k, k + 1, w), mem_upTo.mpr ⟨k, h1, m, w, e, rfl⟩, Nat.le_refl _, Nat.lt_succ_self _, rfl⟩
/-- the pieces that the law works out -/
def lawP (L : List Cell) : List (Sp Rep) := fuse (upTo L 9)
theorem lawP_ok (L : List Cell) : Pos (lawP L) ∧ Nrm (lawP L) ∧ ∀ k w, Has (lawP L) k w ↔ k < 9 ∧ ∃ m, L[k]? = some (some (m, w)) := by
  obtain ⟨h1, h2, h3⟩ := fuse_ok (xs := upTo L 9) upTo_pos (upTo_asc 9)
  exact ⟨h1, h2, fun k w => by unfold lawP; rw [h3, has_upTo]⟩
theorem pos_end {S : List (Sp Rep)} (hp : Pos S) (h : ∀ k w, Has S k w → k < 9) : ∀ x ∈ S, x.1 < 9 ∧ x.2.1 ≤ 9 := fun x hx => by
  have p := hp x hx
  have a := h (x.2.1 - 1) x.2.2 ⟨x, hx, by omega, by omega, rfl⟩
  omega
theorem lawP_end (L : List Cell) : ∀ x ∈ lawP L, x.1 < 9 ∧ x.2.1 ≤ 9 := pos_end (lawP_ok L).1 fun k w h => (((lawP_ok L).2.2 k w).mp h).1
theorem asc_len : ∀ {S : List (Sp Rep)} {a : Nat}, Pos S → Asc S → (∀ x ∈ S, a ≤ x.1 ∧ x.2.1 ≤ 9) → S.length + a ≤ 9 ∨ S = []
  | [], a, _, _, _ => .inr rfl
  | x :: S, a, hp, hs, h => by
    obtain ⟨s1, s2⟩ := List.pairwise_cons.mp hs
    have hx := h x List.mem_cons_self
    have px := hp x List.mem_cons_self
    left
    rcases asc_len (S := S) (a := x.2.1) (fun y hy => hp y (List.mem_cons_of_mem _ hy)) s2 (fun y hy => ⟨s1 y hy, (h y (List.mem_cons_of_mem _ hy)).2⟩) with q | q
    · rw [List.length_cons]
      omega
    · rw [q, List.length_singleton]
      omega
theorem len9 {S : List (Sp Rep)} (hp : Pos S) (hs : Asc S) (h : ∀ x ∈ S, x.1 < 9 ∧ x.2.1 ≤ 9) : S.length ≤ 9 := by
  rcases asc_len (a := 0) hp hs fun x hx => ⟨Nat.zero_le _, (h x hx).2⟩ with q | q
  · omega
  · rw [q]
    exact Nat.zero_le _
/-- a cell after a place is dropped: f is the piece that has it -/
def dropC (f : Option (Sp Rep)) (i : Nat) (c : Cell) : Cell := match f with
  | some x => if x.1 ≤ i ∧ i < x.2.1 then none else c
  | none => c
end
end Q
namespace Q
open PySem L2
local macro_rules | `(tactic| walk_at "mu") => `(tactic| (repeat (first | exact mset_same | assumption | (rw [mset_ne]; rotate_left; (first | assumption | exact Ne.symm (by assumption))))))
local macro_rules | `(tactic| walk_at "lk") => `(tactic| (repeat (first | exact lk_hit | exact lk_nil | refine lk_skip (by decide +kernel) ?_)))
local macro_rules | `(tactic| walk_at "pf") => `(tactic| (repeat (first | rw [pf_nil] | rw [pf_hit] | (rw [pf_skip]; rotate_left; (focus (decide +kernel; done))))))
local macro_rules | `(tactic| walk_at "q") => `(tactic| ((with_reducible conv => whnf); repeat (first
  | (with_reducible refine q_t (by assumption) ?_; with_reducible conv => whnf)
  | (with_reducible refine q_f (by assumption) ?_; with_reducible conv => whnf)
  | (with_reducible refine q_t (by with_reducible rfl) ?_; with_reducible conv => whnf)
  | (with_reducible refine q_f (by with_reducible rfl) ?_; with_reducible conv => whnf)
  | (with_reducible refine q_t (by decide) ?_; with_reducible conv => whnf)
  | (with_reducible refine q_f (by decide) ?_; with_reducible conv => whnf)
  | (with_reducible refine q_t (decide_eq_true (by omega)) ?_; with_reducible conv => whnf)
  | (with_reducible refine q_f (decide_eq_false (by omega)) ?_; with_reducible conv => whnf)
  | (with_reducible refine q_f (q_nn (by omega)) ?_; with_reducible conv => whnf)
  | (with_reducible refine q_t (q_nt (by omega)) ?_; with_reducible conv => whnf)
  | (with_reducible refine q_len (by with_unfolding_all rfl) ?_; with_reducible conv => whnf)
  | (with_reducible refine q_leq (by with_unfolding_all rfl) ?_; with_reducible conv => whnf)
  | (with_reducible refine q_and (by first | assumption | exact True.intro | omega | (simp only [List.length_map, List.length_append, List.length_cons, List.length_nil]; omega) | decide) ?_; with_reducible conv => whnf)
  | (with_reducible refine q_le (by with_unfolding_all rfl) ?_; with_reducible conv => whnf)
  | (with_reducible refine q_and tyL_lst ?_; with_reducible conv => whnf)
  | (with_reducible refine q_and tyL_rol ?_; with_reducible conv => whnf)
  | (with_reducible refine q_and (tyL_ref (by walk_at "mu")) ?_; with_reducible conv => whnf)
  | (with_reducible refine q_and (tyD_ref (by walk_at "mu")) ?_; with_reducible conv => whnf)
  | (with_reducible refine q_and (rdD_ref (by walk_at "mu")) ?_; with_reducible conv => whnf)
  | (rw [pick_c0]; with_reducible conv => whnf)
  | (rw [pick_c1]; with_reducible conv => whnf)
  | (rw [pick_c2]; with_reducible conv => whnf)
  | (rw [pick_c3]; with_reducible conv => whnf)
  | (rw [pick_c4]; with_reducible conv => whnf)
  | (rw [pick_c5]; with_reducible conv => whnf)
  | (rw [mset_same]; with_reducible conv => whnf)
  | (rw [mset_ne (by assumption)]; with_reducible conv => whnf)
  | (rw [mset_ne]; rotate_left; (first | assumption | exact Ne.symm (by assumption)); with_reducible conv => whnf)
  | (rw [rdL_ref]; rotate_left; (focus (walk_at "mu"; done)); with_reducible conv => whnf)
  | (rw [rdL_refD]; rotate_left; (focus (walk_at "mu"; done)); with_reducible conv => whnf)
  | (rw [rdD_refD]; rotate_left; (focus (walk_at "mu"; done)); with_reducible conv => whnf)
  | (rw [rdM_ref]; rotate_left; (focus (walk_at "mu"; done)); with_reducible conv => whnf)
  | (rw [rdL_refK]; rotate_left; (focus (walk_at "mu"; done)); with_reducible conv => whnf)
  | (rw [rdD_refK]; rotate_left; (focus (walk_at "mu"; done)); with_reducible conv => whnf)
  | (rw [tyW_refL]; rotate_left; (focus (walk_at "mu"; done)); with_reducible conv => whnf)
  | (rw [tyW_refD]; rotate_left; (focus (walk_at "mu"; done)); with_reducible conv => whnf)
  | (rw [drf_ref]; rotate_left; (focus (walk_at "mu"; done)); with_reducible conv => whnf)
  | ((conv => (arg 2; tactic' => (walk_at "mu"; done))); with_reducible conv => whnf)
  | (with_reducible refine q_and (Eq.refl _) ?_; with_reducible conv => whnf)
  | (with_reducible refine q_and (MulO.r (by decide)) ?_; with_reducible conv => whnf)
  | (with_reducible refine q_and (MulO.l (by decide)) ?_; with_reducible conv => whnf)
  | (with_reducible refine q_and (MulO.r (by omega)) ?_; with_reducible conv => whnf)
  | (with_reducible refine q_and (MulO.l (by omega)) ?_; with_reducible conv => whnf)
  | (with_reducible refine q_pow (by decide) ?_; with_reducible conv => whnf)
  | (with_reducible refine q_nisT (by first | assumption | with_reducible rfl) ?_; with_reducible conv => whnf)
  | (with_reducible refine q_nisF (by first | assumption | with_reducible rfl) ?_; with_reducible conv => whnf)
  | (with_reducible refine q_eqI ?_; with_reducible conv => whnf)
  | (with_reducible refine q_eqS ?_; with_reducible conv => whnf)
  | (with_reducible refine q_eqB ?_; with_reducible conv => whnf)
  | (with_reducible refine q_neI ?_; with_reducible conv => whnf)
  | (with_reducible refine q_neS ?_; with_reducible conv => whnf)
  | (with_reducible refine q_neB ?_; with_reducible conv => whnf)
  | (with_reducible refine q_memc ?_; with_reducible conv => whnf)
  | (with_reducible refine q_lkn (by walk_at "lk") ?_; with_reducible conv => whnf)
  | (with_reducible refine q_tix (by walk_at "lk"; done) ?_; with_reducible conv => whnf)
  | (with_reducible refine q_tin ?_; with_reducible conv => whnf)
  | (rw [pf_hit]; with_reducible conv => whnf)
  | (rw [pf_skip]; rotate_left; (focus (decide +kernel; done)); with_reducible conv => whnf)
  | (rw [lk_hit]; with_reducible conv => whnf)
  | (rw [lk_skip1]; rotate_left; (focus (decide +kernel; done)); with_reducible conv => whnf))))
/-! k48: what the law asks of the pieces -/
end Q
namespace Q
open PySem L2
local macro_rules | `(tactic| walk_at "mu") => `(tactic| (repeat (first | exact mset_same | assumption | (rw [mset_ne]; rotate_left; (first | assumption | exact Ne.symm (by assumption))))))
local macro_rules | `(tactic| walk_at "lk") => `(tactic| (repeat (first | exact lk_hit | exact lk_nil | refine lk_skip (by decide +kernel) ?_)))
local macro_rules | `(tactic| walk_at "pf") => `(tactic| (repeat (first | rw [pf_nil] | rw [pf_hit] | (rw [pf_skip]; rotate_left; (focus (decide +kernel; done))))))
local macro_rules | `(tactic| walk_at "q") => `(tactic| ((with_reducible conv => whnf); repeat (first
  | (with_reducible refine q_t (by assumption) ?_; with_reducible conv => whnf)
  | (with_reducible refine q_f (by assumption) ?_; with_reducible conv => whnf)
  | (with_reducible refine q_t (by with_reducible rfl) ?_; with_reducible conv => whnf)
  | (with_reducible refine q_f (by with_reducible rfl) ?_; with_reducible conv => whnf)
  | (with_reducible refine q_t (by decide) ?_; with_reducible conv => whnf)
  | (with_reducible refine q_f (by decide) ?_; with_reducible conv => whnf)
  | (with_reducible refine q_t (decide_eq_true (by omega)) ?_; with_reducible conv => whnf)
  | (with_reducible refine q_f (decide_eq_false (by omega)) ?_; with_reducible conv => whnf)
  | (with_reducible refine q_f (q_nn (by omega)) ?_; with_reducible conv => whnf)
  | (with_reducible refine q_t (q_nt (by omega)) ?_; with_reducible conv => whnf)
  | (with_reducible refine q_len (by with_unfolding_all rfl) ?_; with_reducible conv => whnf)
  | (with_reducible refine q_leq (by with_unfolding_all rfl) ?_; with_reducible conv => whnf)
  | (with_reducible refine q_and (by first | assumption | exact True.intro | omega | (simp only [List.length_map, List.length_append, List.length_cons, List.length_nil]; omega) | decide) ?_; with_reducible conv => whnf)
  | (with_reducible refine q_le (by with_unfolding_all rfl) ?_; with_reducible conv => whnf)
  | (with_reducible refine q_and tyL_lst ?_; with_reducible conv => whnf)
  | (with_reducible refine q_and tyL_rol ?_; with_reducible conv => whnf)
  | (with_reducible refine q_and (tyL_ref (by walk_at "mu")) ?_; with_reducible conv => whnf)
  | (with_reducible refine q_and (tyD_ref (by walk_at "mu")) ?_; with_reducible conv => whnf)
  | (with_reducible refine q_and (rdD_ref (by walk_at "mu")) ?_; with_reducible conv => whnf)
  | (rw [pick_c0]; with_reducible conv => whnf)
  | (rw [pick_c1]; with_reducible conv => whnf)
  | (rw [pick_c2]; with_reducible conv => whnf)
  | (rw [pick_c3]; with_reducible conv => whnf)
  | (rw [pick_c4]; with_reducible conv => whnf)
  | (rw [pick_c5]; with_reducible conv => whnf)
  | (rw [mset_same]; with_reducible conv => whnf)
  | (rw [mset_ne (by assumption)]; with_reducible conv => whnf)
  | (rw [mset_ne]; rotate_left; (first | assumption | exact Ne.symm (by assumption)); with_reducible conv => whnf)
  | (rw [rdL_ref]; rotate_left; (focus (walk_at "mu"; done)); with_reducible conv => whnf)
  | (rw [rdL_refD]; rotate_left; (focus (walk_at "mu"; done)); with_reducible conv => whnf)
  | (rw [rdD_refD]; rotate_left; (focus (walk_at "mu"; done)); with_reducible conv => whnf)
  | (rw [rdM_ref]; rotate_left; (focus (walk_at "mu"; done)); with_reducible conv => whnf)
  | (rw [rdL_refK]; rotate_left; (focus (walk_at "mu"; done)); with_reducible conv => whnf)
  | (rw [rdD_refK]; rotate_left; (focus (walk_at "mu"; done)); with_reducible conv => whnf)
  | (rw [tyW_refL]; rotate_left; (focus (walk_at "mu"; done)); with_reducible conv => whnf)
  | (rw [tyW_refD]; rotate_left; (focus (walk_at "mu"; done)); with_reducible conv => whnf)
  | (rw [drf_ref]; rotate_left; (focus (walk_at "mu"; done)); with_reducible conv => whnf)
  | ((conv => (arg 2; tactic' => (walk_at "mu"; done))); with_reducible conv => whnf)
  | (with_reducible refine q_and (Eq.refl _) ?_; with_reducible conv => whnf)
  | (with_reducible refine q_and (MulO.r (by decide)) ?_; with_reducible conv => whnf)
  | (with_reducible refine q_and (MulO.l (by decide)) ?_; with_reducible conv => whnf)
  | (with_reducible refine q_and (MulO.r (by omega)) ?_; with_reducible conv => whnf)
  | (with_reducible refine q_and (MulO.l (by omega)) ?_; with_reducible conv => whnf)
  | (with_reducible refine q_pow (by decide) ?_; with_reducible conv => whnf)
  | (with_reducible refine q_nisT (by first | assumption | with_reducible rfl) ?_; with_reducible conv => whnf)
  | (with_reducible refine q_nisF (by first | assumption | with_reducible rfl) ?_; with_reducible conv => whnf)
  | (with_reducible refine q_eqI ?_; with_reducible conv => whnf)
  | (with_reducible refine q_eqS ?_; with_reducible conv => whnf)
  | (with_reducible refine q_eqB ?_; with_reducible conv => whnf)
  | (with_reducible refine q_neI ?_; with_reducible conv => whnf)
  | (with_reducible refine q_neS ?_; with_reducible conv => whnf)
  | (with_reducible refine q_neB ?_; with_reducible conv => whnf)
  | (with_reducible refine q_memc ?_; with_reducible conv => whnf)
  | (with_reducible refine q_lkn (by walk_at "lk") ?_; with_reducible conv => whnf)
  | (with_reducible refine q_tix (by walk_at "lk"; done) ?_; with_reducible conv => whnf)
  | (with_reducible refine q_tin ?_; with_reducible conv => whnf)
  | (rw [pf_hit]; with_reducible conv => whnf)
  | (rw [pf_skip]; rotate_left; (focus (decide +kernel; done)); with_reducible conv => whnf)
  | (rw [lk_hit]; with_reducible conv => whnf)
  | (rw [lk_skip1]; rotate_left; (focus (decide +kernel; done)); with_reducible conv => whnf))))
/-! plan: the program's side (k51) -/
end Q
namespace Q
open PySem L2
local macro_rules | `(tactic| walk_at "mu") => `(tactic| (repeat (first | exact mset_same | assumption | (rw [mset_ne]; rotate_left; (first | assumption | exact Ne.symm (by assumption))))))
local macro_rules | `(tactic| walk_at "lk") => `(tactic| (repeat (first | exact lk_hit | exact lk_nil | refine lk_skip (by decide +kernel) ?_)))
local macro_rules | `(tactic| walk_at "pf") => `(tactic| (repeat (first | rw [pf_nil] | rw [pf_hit] | (rw [pf_skip]; rotate_left; (focus (decide +kernel; done))))))
local macro_rules | `(tactic| walk_at "q") => `(tactic| ((with_reducible conv => whnf); repeat (first
  | (with_reducible refine q_t (by assumption) ?_; with_reducible conv => whnf)
  | (with_reducible refine q_f (by assumption) ?_; with_reducible conv => whnf)
  | (with_reducible refine q_t (by with_reducible rfl) ?_; with_reducible conv => whnf)
  | (with_reducible refine q_f (by with_reducible rfl) ?_; with_reducible conv => whnf)
  | (with_reducible refine q_t (by decide) ?_; with_reducible conv => whnf)
  | (with_reducible refine q_f (by decide) ?_; with_reducible conv => whnf)
  | (with_reducible refine q_t (decide_eq_true (by omega)) ?_; with_reducible conv => whnf)
  | (with_reducible refine q_f (decide_eq_false (by omega)) ?_; with_reducible conv => whnf)
  | (with_reducible refine q_f (q_nn (by omega)) ?_; with_reducible conv => whnf)
  | (with_reducible refine q_t (q_nt (by omega)) ?_; with_reducible conv => whnf)
  | (with_reducible refine q_len (by with_unfolding_all rfl) ?_; with_reducible conv => whnf)
  | (with_reducible refine q_leq (by with_unfolding_all rfl) ?_; with_reducible conv => whnf)
  | (with_reducible refine q_and (by first | assumption | exact True.intro | omega | (simp only [List.length_map, List.length_append, List.length_cons, List.length_nil]; omega) | decide) ?_; with_reducible conv => whnf)
  | (with_reducible refine q_le (by with_unfolding_all rfl) ?_; with_reducible conv => whnf)
  | (with_reducible refine q_and tyL_lst ?_; with_reducible conv => whnf)
  | (with_reducible refine q_and tyL_rol ?_; with_reducible conv => whnf)
  | (with_reducible refine q_and (tyL_ref (by walk_at "mu")) ?_; with_reducible conv => whnf)
  | (with_reducible refine q_and (tyD_ref (by walk_at "mu")) ?_; with_reducible conv => whnf)
  | (with_reducible refine q_and (rdD_ref (by walk_at "mu")) ?_; with_reducible conv => whnf)
  | (rw [pick_c0]; with_reducible conv => whnf)
  | (rw [pick_c1]; with_reducible conv => whnf)
  | (rw [pick_c2]; with_reducible conv => whnf)
  | (rw [pick_c3]; with_reducible conv => whnf)
  | (rw [pick_c4]; with_reducible conv => whnf)
  | (rw [pick_c5]; with_reducible conv => whnf)
  | (rw [mset_same]; with_reducible conv => whnf)
  | (rw [mset_ne (by assumption)]; with_reducible conv => whnf)
  | (rw [mset_ne]; rotate_left; (first | assumption | exact Ne.symm (by assumption)); with_reducible conv => whnf)
  | (rw [rdL_ref]; rotate_left; (focus (walk_at "mu"; done)); with_reducible conv => whnf)
  | (rw [rdL_refD]; rotate_left; (focus (walk_at "mu"; done)); with_reducible conv => whnf)
  | (rw [rdD_refD]; rotate_left; (focus (walk_at "mu"; done)); with_reducible conv => whnf)
  | (rw [rdM_ref]; rotate_left; (focus (walk_at "mu"; done)); with_reducible conv => whnf)
  | (rw [rdL_refK]; rotate_left; (focus (walk_at "mu"; done)); with_reducible conv => whnf)
  | (rw [rdD_refK]; rotate_left; (focus (walk_at "mu"; done)); with_reducible conv => whnf)
  | (rw [tyW_refL]; rotate_left; (focus (walk_at "mu"; done)); with_reducible conv => whnf)
  | (rw [tyW_refD]; rotate_left; (focus (walk_at "mu"; done)); with_reducible conv => whnf)
  | (rw [drf_ref]; rotate_left; (focus (walk_at "mu"; done)); with_reducible conv => whnf)
  | ((conv => (arg 2; tactic' => (walk_at "mu"; done))); with_reducible conv => whnf)
  | (with_reducible refine q_and (Eq.refl _) ?_; with_reducible conv => whnf)
  | (with_reducible refine q_and (MulO.r (by decide)) ?_; with_reducible conv => whnf)
  | (with_reducible refine q_and (MulO.l (by decide)) ?_; with_reducible conv => whnf)
  | (with_reducible refine q_and (MulO.r (by omega)) ?_; with_reducible conv => whnf)
  | (with_reducible refine q_and (MulO.l (by omega)) ?_; with_reducible conv => whnf)
  | (with_reducible refine q_pow (by decide) ?_; with_reducible conv => whnf)
  | (with_reducible refine q_nisT (by first | assumption | with_reducible rfl) ?_; with_reducible conv => whnf)
  | (with_reducible refine q_nisF (by first | assumption | with_reducible rfl) ?_; with_reducible conv => whnf)
  | (with_reducible refine q_eqI ?_; with_reducible conv => whnf)
  | (with_reducible refine q_eqS ?_; with_reducible conv => whnf)
  | (with_reducible refine q_eqB ?_; with_reducible conv => whnf)
  | (with_reducible refine q_neI ?_; with_reducible conv => whnf)
  | (with_reducible refine q_neS ?_; with_reducible conv => whnf)
  | (with_reducible refine q_neB ?_; with_reducible conv => whnf)
  | (with_reducible refine q_memc ?_; with_reducible conv => whnf)
  | (with_reducible refine q_lkn (by walk_at "lk") ?_; with_reducible conv => whnf)
  | (with_reducible refine q_tix (by walk_at "lk"; done) ?_; with_reducible conv => whnf)
  | (with_reducible refine q_tin ?_; with_reducible conv => whnf)
  | (rw [pf_hit]; with_reducible conv => whnf)
  | (rw [pf_skip]; rotate_left; (focus (decide +kernel; done)); with_reducible conv => whnf)
  | (rw [lk_hit]; with_reducible conv => whnf)
  | (rw [lk_skip1]; rotate_left; (focus (decide +kernel; done)); with_reducible conv => whnf))))
/-! letters: what they are, of any plain values -/
theorem pb {b c : Bool} {μ : Mu} {P : Po} (h : P (.bl b) μ) (e : b = c) : P (.bl c) μ := e ▸ h
theorem itS_ws {std : Mu → Prop} {g : FG} {b : FS} {N : En} (I : List W → List W → Rho → Mu → Prop) (ws : List W) {ρ : Rho} {μ : Mu} (h0 : I [] ws ρ μ)
    (hs : ∀ done x r ρ μ, I done (x :: r) ρ μ → std μ ∧ ∀ K : Rho → Mu → Prop, (∀ ρ' μ', I (done ++ [x]) r ρ' μ' → K ρ' μ') → g x ρ μ fun ρ1 μ1 => b ρ1 μ1 { nx := K, ct := K, bk := N.nx, rt := N.rt, ex := N.ex })
    (hd : ∀ done ρ μ, I done [] ρ μ → std μ ∧ N.nx ρ μ) : itS std g b ws ρ μ N := by
  have := itS_of (std := std) (g := g) (b := b) (N := N) id I ws [] h0 hs hd
  rwa [List.map_id] at this
mutual
/-- plain through and through -/
def dp : W → Bool
  | .non => true
  | .bl _ => true
  | .int _ => true
  | .str z => decide (z.length ≤ 16000000)
  | .tup ws => dps ws
  | .lst ws => dps ws
  | _ => false
def dps : List W → Bool
  | [] => true
  | w :: ws => dp w && dps ws
end
theorem dp_pl {w : W} (h : dp w = true) : pl w = true := by
  cases w with
  | str z => 
    have h : decide (z.length ≤ 16000000) = true := by unfold dp at h; exact h
    exact h
  | non => rfl
  | bl b => rfl
  | int i => rfl
  | tup ws => rfl
  | lst ws => rfl
  | _ => unfold dp at h; cases h
theorem dp_tup {ws : List W} (h : dp (.tup ws) = true) : dps ws = true := by unfold dp at h; exact h
theorem dps_cons {w : W} {ws : List W} (h : dps (w :: ws) = true) : dp w = true ∧ dps ws = true := by unfold dps at h; exact Bool.and_eq_true_iff.mp h
theorem dps_mem : ∀ {ws : List W}, dps ws = true → ∀ w ∈ ws, dp w = true
  | [], _, w, hw => by cases hw
  | x :: ws, h, w, hw => by
    obtain ⟨h1, h2⟩ := dps_cons h
    rcases List.mem_cons.mp hw with rfl | hw
    · exact h1
    · exact dps_mem h2 w hw
theorem dps_pl {ws : List W} (h : dps ws = true) : ∀ w ∈ ws, pl w = true := fun w hw => dp_pl (dps_mem h w hw)
theorem dp_str {z : Str} (h : dp (.str z) = true) : z.length ≤ 16000000 := by unfold dp at h; exact of_decide_eq_true h
/-- the kind -/
def kindW : W → Str
  | .tup (.str k :: _) => k
  | _ => ""
theorem sp_kind {w : W} {μ : Mu} {P : Po} {X : Xo} (hp : dp w = true) (h : P (.str (kindW w)) μ) : f_kind_of [w] μ P X := by
  rw [f_kind_of_eq]; unfold f_kind_of_B fDef
  refine ⟨rfl, ?_⟩
  cases w with
  | tup ws =>
    cases ws with
    | nil =>
      walk_at "q"
      exact Rt.now h
    | cons a r =>
      have ha := (dps_cons (dp_tup hp)).1
      have hl : decide ((0 : Int) < ((a :: r).length : Int)) = true := decide_eq_true (by rw [List.length_cons]; omega)
      cases a with
      | str k =>
        walk_at "q"
        exact Rt.now h
      | non =>
        walk_at "q"
        exact Rt.now h
      | bl b =>
        walk_at "q"
        exact Rt.now h
      | int i =>
        walk_at "q"
        exact Rt.now h
      | tup us =>
        walk_at "q"
        exact Rt.now h
      | lst us =>
        walk_at "q"
        exact Rt.now h
      | _ => unfold dp at ha; cases ha
  | non =>
    walk_at "q"
    exact Rt.now h
  | bl b =>
    walk_at "q"
    exact Rt.now h
  | int i =>
    walk_at "q"
    exact Rt.now h
  | str z =>
    walk_at "q"
    exact Rt.now h
  | lst us =>
    walk_at "q"
    exact Rt.now h
  | _ => unfold dp at hp; cases hp
/-- operations of any plain value -/
def opW : W → Bool
  | .tup ws => opB ws
  | _ => false
theorem sp_opK {w : W} {μ : Mu} {P : Po} {X : Xo} (hp : dp w = true) (hk : kindW w = "") (h : P (.bl false) μ) : f_is_operation [w] μ P X := by
  rw [f_is_operation_eq]; unfold f_is_operation_B fDef
  refine ⟨rfl, ?_⟩
  walk_at "q"
  refine sp_kind hp ?_
  rw [hk]
  walk_at "q"
  exact Rt.now h
theorem opB_no {w : W} {r : List W} (h : ∀ k, w ≠ .str k) : opB (w :: r) = false := by
  cases w with
  | str k => exact absurd rfl (h k)
  | _ => rfl
theorem sp_op {w : W} {μ : Mu} {P : Po} {X : Xo} (hp : dp w = true) (h : P (.bl (opW w)) μ) : f_is_operation [w] μ P X := by
  cases w with
  | tup ws =>
    have hs := dp_tup hp
    cases ws with
    | nil => exact sp_opK hp rfl h
    | cons a r =>
      obtain ⟨ha, hr⟩ := dps_cons hs
      cases a with
      | str k => exact sp_is_op (dps_pl hr) (dp_str ha) h
      | _ => first
        | exact sp_opK hp rfl (by rw [show opW (.tup (_ :: r)) = false from opB_no (by intro k; simp)] at h; exact h)
        | (unfold dp at ha; cases ha)
  | non => exact sp_opK hp rfl h
  | bl b => exact sp_opK hp rfl h
  | int i => exact sp_opK hp rfl h
  | str z => exact sp_opK hp rfl h
  | lst us => exact sp_opK hp rfl h
  | _ => unfold dp at hp; cases hp
/-- pairs -/
def pairB : W → Bool
  | .tup [a, b] => keyW a && valB b
  | _ => false
theorem sp__is_pair {w : W} {μ : Mu} {P : Po} {X : Xo} (hp : dp w = true) (h : P (.bl (pairB w)) μ) : f__is_pair [w] μ P X := by
  rw [f__is_pair_eq]; unfold f__is_pair_B fDef
  refine ⟨rfl, ?_⟩
  cases w with
  | tup ws =>
    have hs := dps_pl (dp_tup hp)
    match ws, hs, h with
    | [], hs, h =>
      walk_at "q"
      exact Rt.now h
    | [a], hs, h =>
      walk_at "q"
      refine q_f rfl ?_
      exact Rt.now h
    | [a, b], hs, h =>
      have h : P (.bl (keyW a && valB b)) μ := h
      walk_at "q"
      refine q_t rfl ?_
      walk_at "q"
      refine sp_key (hs a (by simp)) ?_
      refine q_if (fun c => ?_) fun c => ?_
      · walk_at "q"
        refine sp_val (hs b (by simp)) ?_
        exact Rt.now (pb h (by simp [c]))
      · exact Rt.now (pb h (by simp [c]))
    | a :: b :: d :: r, hs, h =>
      walk_at "q"
      refine q_f (decide_eq_false (by simp only [List.length_cons]; omega)) ?_
      exact Rt.now h
  | non =>
    walk_at "q"
    exact Rt.now h
  | bl b =>
    walk_at "q"
    exact Rt.now h
  | int i =>
    walk_at "q"
    exact Rt.now h
  | str z =>
    walk_at "q"
    exact Rt.now h
  | lst us =>
    walk_at "q"
    exact Rt.now h
  | _ => unfold dp at hp; cases hp
/-- keys rise -/
def risB : Str → List W → Bool
  | _, [] => true
  | z, .tup [.str k, v] :: r => (isKeyB k && valB v) && (sLt z k && risB k r)
  | _, _ => false
def pairsB : W → Bool
  | .tup ws => risB "" ws
  | _ => false
theorem pairB_some {w : W} (h : pairB w = true) : ∃ k v, w = .tup [.str k, v] ∧ isKeyB k = true ∧ valB v = true := by
  unfold pairB at h
  split at h
  · rename_i a b
    obtain ⟨h1, h2⟩ := Bool.and_eq_true_iff.mp h
    cases a with
    | str k => exact ⟨k, b, rfl, h1, h2⟩
    | _ => cases h1
  · cases h
theorem risB_no {z : Str} {w : W} {r : List W} (h : pairB w = false) : risB z (w :: r) = false := by
  unfold risB
  split
  · rename_i e
    cases e
  · rename_i k v r' e
    cases e
    have h : (isKeyB k && valB v) = false := h
    rw [h]
    rfl
  · rfl
theorem sp_are_pairs {w : W} {μ : Mu} {P : Po} {X : Xo} (hp : dp w = true) (h : P (.bl (pairsB w)) μ) : f_are_pairs [w] μ P X := by
  rw [f_are_pairs_eq]; unfold f_are_pairs_B fDef
  refine ⟨rfl, ?_⟩
  cases w with
  | tup ws =>
    have hs := dp_tup hp
    walk_at "q"
    refine itS_ws (fun done rest ρ μ' => μ' = μ ∧ dps rest = true ∧ ∃ (z : Str) (x2 : Option W), ρ = [some (.tup ws), some (.str z), x2] ∧ risB "" ws = risB z rest) ws ⟨rfl, hs, "", none, rfl, rfl⟩ ?_ ?_
    · rintro done a rest ρ μ' ⟨rfl, hd, z, x2, rfl, e⟩
      obtain ⟨ha, hr⟩ := dps_cons hd
      refine ⟨trivial, fun K hK => ?_⟩
      walk_at "q"
      refine sp__is_pair ha ?_
      cases c : pairB a with
      | false =>
        rw [risB_no c] at e
        walk_at "q"
        exact Rt.now (pb h e)
      | true =>
        obtain ⟨k, v, rfl, k1, k2⟩ := pairB_some c
        have e2 : risB z (.tup [.str k, v] :: rest) = ((isKeyB k && valB v) && (sLt z k && risB k rest)) := rfl
        rw [k1, k2, Bool.true_and, Bool.true_and] at e2
        walk_at "q"
        cases c2 : sLt z k with
        | true =>
          rw [c2, Bool.true_and] at e2
          walk_at "q"
          exact hK _ _ ⟨rfl, hr, k, _, rfl, by rw [e, e2]⟩
        | false =>
          rw [c2, Bool.false_and] at e2
          walk_at "q"
          exact Rt.now (pb h (by rw [show pairsB (.tup ws) = risB "" ws from rfl, e, e2]))
    · rintro done ρ μ' ⟨rfl, hd, z, x2, rfl, e⟩
      refine ⟨trivial, ?_⟩
      walk_at "q"
      exact Rt.now (pb h e)
  | non =>
    walk_at "q"
    exact Rt.now h
  | bl b =>
    walk_at "q"
    exact Rt.now h
  | int i =>
    walk_at "q"
    exact Rt.now h
  | str z =>
    walk_at "q"
    exact Rt.now h
  | lst us =>
    walk_at "q"
    exact Rt.now h
  | _ => unfold dp at hp; cases hp
end Q
namespace Q
open PySem L2
local macro_rules | `(tactic| walk_at "mu") => `(tactic| (repeat (first | exact mset_same | assumption | (rw [mset_ne]; rotate_left; (first | assumption | exact Ne.symm (by assumption))))))
local macro_rules | `(tactic| walk_at "lk") => `(tactic| (repeat (first | exact lk_hit | exact lk_nil | refine lk_skip (by decide +kernel) ?_)))
local macro_rules | `(tactic| walk_at "pf") => `(tactic| (repeat (first | rw [pf_nil] | rw [pf_hit] | (rw [pf_skip]; rotate_left; (focus (decide +kernel; done))))))
local macro_rules | `(tactic| walk_at "q") => `(tactic| ((with_reducible conv => whnf); repeat (first
  | (with_reducible refine q_t (by assumption) ?_; with_reducible conv => whnf)
  | (with_reducible refine q_f (by assumption) ?_; with_reducible conv => whnf)
  | (with_reducible refine q_t (by with_reducible rfl) ?_; with_reducible conv => whnf)
  | (with_reducible refine q_f (by with_reducible rfl) ?_; with_reducible conv => whnf)
  | (with_reducible refine q_t (by decide) ?_; with_reducible conv => whnf)
  | (with_reducible refine q_f (by decide) ?_; with_reducible conv => whnf)
  | (with_reducible refine q_t (decide_eq_true (by omega)) ?_; with_reducible conv => whnf)
  | (with_reducible refine q_f (decide_eq_false (by omega)) ?_; with_reducible conv => whnf)
  | (with_reducible refine q_f (q_nn (by omega)) ?_; with_reducible conv => whnf)
  | (with_reducible refine q_t (q_nt (by omega)) ?_; with_reducible conv => whnf)
  | (with_reducible refine q_len (by with_unfolding_all rfl) ?_; with_reducible conv => whnf)
  | (with_reducible refine q_leq (by with_unfolding_all rfl) ?_; with_reducible conv => whnf)
  | (with_reducible refine q_and (by first | assumption | exact True.intro | omega | (simp only [List.length_map, List.length_append, List.length_cons, List.length_nil]; omega) | decide) ?_; with_reducible conv => whnf)
  | (with_reducible refine q_le (by with_unfolding_all rfl) ?_; with_reducible conv => whnf)
  | (with_reducible refine q_and tyL_lst ?_; with_reducible conv => whnf)
  | (with_reducible refine q_and tyL_rol ?_; with_reducible conv => whnf)
  | (with_reducible refine q_and (tyL_ref (by walk_at "mu")) ?_; with_reducible conv => whnf)
  | (with_reducible refine q_and (tyD_ref (by walk_at "mu")) ?_; with_reducible conv => whnf)
  | (with_reducible refine q_and (rdD_ref (by walk_at "mu")) ?_; with_reducible conv => whnf)
  | (rw [pick_c0]; with_reducible conv => whnf)
  | (rw [pick_c1]; with_reducible conv => whnf)
  | (rw [pick_c2]; with_reducible conv => whnf)
  | (rw [pick_c3]; with_reducible conv => whnf)
  | (rw [pick_c4]; with_reducible conv => whnf)
  | (rw [pick_c5]; with_reducible conv => whnf)
  | (rw [mset_same]; with_reducible conv => whnf)
  | (rw [mset_ne (by assumption)]; with_reducible conv => whnf)
  | (rw [mset_ne]; rotate_left; (first | assumption | exact Ne.symm (by assumption)); with_reducible conv => whnf)
  | (rw [rdL_ref]; rotate_left; (focus (walk_at "mu"; done)); with_reducible conv => whnf)
  | (rw [rdL_refD]; rotate_left; (focus (walk_at "mu"; done)); with_reducible conv => whnf)
  | (rw [rdD_refD]; rotate_left; (focus (walk_at "mu"; done)); with_reducible conv => whnf)
  | (rw [rdM_ref]; rotate_left; (focus (walk_at "mu"; done)); with_reducible conv => whnf)
  | (rw [rdL_refK]; rotate_left; (focus (walk_at "mu"; done)); with_reducible conv => whnf)
  | (rw [rdD_refK]; rotate_left; (focus (walk_at "mu"; done)); with_reducible conv => whnf)
  | (rw [tyW_refL]; rotate_left; (focus (walk_at "mu"; done)); with_reducible conv => whnf)
  | (rw [tyW_refD]; rotate_left; (focus (walk_at "mu"; done)); with_reducible conv => whnf)
  | (rw [drf_ref]; rotate_left; (focus (walk_at "mu"; done)); with_reducible conv => whnf)
  | ((conv => (arg 2; tactic' => (walk_at "mu"; done))); with_reducible conv => whnf)
  | (with_reducible refine q_and (Eq.refl _) ?_; with_reducible conv => whnf)
  | (with_reducible refine q_and (MulO.r (by decide)) ?_; with_reducible conv => whnf)
  | (with_reducible refine q_and (MulO.l (by decide)) ?_; with_reducible conv => whnf)
  | (with_reducible refine q_and (MulO.r (by omega)) ?_; with_reducible conv => whnf)
  | (with_reducible refine q_and (MulO.l (by omega)) ?_; with_reducible conv => whnf)
  | (with_reducible refine q_pow (by decide) ?_; with_reducible conv => whnf)
  | (with_reducible refine q_nisT (by first | assumption | with_reducible rfl) ?_; with_reducible conv => whnf)
  | (with_reducible refine q_nisF (by first | assumption | with_reducible rfl) ?_; with_reducible conv => whnf)
  | (with_reducible refine q_eqI ?_; with_reducible conv => whnf)
  | (with_reducible refine q_eqS ?_; with_reducible conv => whnf)
  | (with_reducible refine q_eqB ?_; with_reducible conv => whnf)
  | (with_reducible refine q_neI ?_; with_reducible conv => whnf)
  | (with_reducible refine q_neS ?_; with_reducible conv => whnf)
  | (with_reducible refine q_neB ?_; with_reducible conv => whnf)
  | (with_reducible refine q_memc ?_; with_reducible conv => whnf)
  | (with_reducible refine q_lkn (by walk_at "lk") ?_; with_reducible conv => whnf)
  | (with_reducible refine q_tix (by walk_at "lk"; done) ?_; with_reducible conv => whnf)
  | (with_reducible refine q_tin ?_; with_reducible conv => whnf)
  | (rw [pf_hit]; with_reducible conv => whnf)
  | (rw [pf_skip]; rotate_left; (focus (decide +kernel; done)); with_reducible conv => whnf)
  | (rw [lk_hit]; with_reducible conv => whnf)
  | (rw [lk_skip1]; rotate_left; (focus (decide +kernel; done)); with_reducible conv => whnf))))
/-! letters: answers, sessions, ranges -/
def len2 (ws : List W) (f : W → Bool) : Bool := match ws with
  | [_, a] => f a
  | _ => false
theorem sp__is_value_told {ws : List W} {μ : Mu} {P : Po} {X : Xo} (hp : dps ws = true) (h : P (.bl (len2 ws valB)) μ) : f__is_value_told [.tup ws] μ P X := by
  rw [f__is_value_told_eq]; unfold f__is_value_told_B fDef
  refine ⟨rfl, ?_⟩
  have hs := dps_pl hp
  match ws, hs, h with
  | [], hs, h =>
    walk_at "q"
    exact Rt.now h
  | [a], hs, h =>
    walk_at "q"
    refine q_f rfl ?_
    exact Rt.now h
  | [a, b], hs, h =>
    walk_at "q"
    refine q_t rfl ?_
    walk_at "q"
    refine sp_val (hs b (by simp)) ?_
    exact Rt.now h
  | a :: b :: d :: r, hs, h =>
    walk_at "q"
    refine q_f (decide_eq_false (by simp only [List.length_cons]; omega)) ?_
    exact Rt.now h
theorem sp__is_word_alone {ws : List W} {μ : Mu} {P : Po} {X : Xo} (h : P (.bl (decide ((ws.length : Int) = 1))) μ) : f__is_word_alone [.tup ws] μ P X := by
  rw [f__is_word_alone_eq]; unfold f__is_word_alone_B fDef
  refine ⟨rfl, ?_⟩
  walk_at "q"
  exact Rt.now h
def folB (ps f : W) : Bool := pairsB ps && (match ps with
  | .tup ws => decide (ws.length ≤ 50) && ((match f with
    | .non => true
    | .str y => isKeyB y
    | _ => false) && (match ws.getLast? with
      | none => true
      | some (.tup (.str k :: _)) => (match f with
        | .str y => sLt k y
        | _ => true)
      | some _ => false))
  | _ => false)
def pageB (ws : List W) : Bool := match ws with
  | [_, ps, f] => folB ps f
  | _ => false
theorem ris_last : ∀ {z : Str} {ws : List W} {w : W}, risB z (ws ++ [w]) = true → pairB w = true
  | z, [], w, h => by
    cases e : pairB w with
    | true => rfl
    | false =>
      rw [List.nil_append, risB_no e] at h
      cases h
  | z, x :: ws, w, h => by
    cases e : pairB x with
    | false =>
      rw [List.cons_append, risB_no e] at h
      cases h
    | true =>
      obtain ⟨k, v, rfl, _, _⟩ := pairB_some e
      have h : ((isKeyB k && valB v) && (sLt z k && risB k (ws ++ [w]))) = true := h
      exact ris_last (Bool.and_eq_true_iff.mp (Bool.and_eq_true_iff.mp h).2).2
theorem last_cases {α : Type} (xs : List α) : xs = [] ∨ ∃ ys y, xs = ys ++ [y] := by
  rcases List.eq_nil_or_concat xs with h | ⟨ys, y, h⟩
  · exact .inl h
  · exact .inr ⟨ys, y, by simpa using h⟩
theorem pick_lastW (xs : List W) (x : W) : pick (xs ++ [x]) (-1) = some x := by
  have := pick_mlast (enc := id) xs x
  rwa [List.map_id] at this
theorem sp__is_page_told {ws : List W} {μ : Mu} {P : Po} {X : Xo} (hp : dps ws = true) (h : P (.bl (pageB ws)) μ) : f__is_page_told [.tup ws] μ P X := by
  rw [f__is_page_told_eq]; unfold f__is_page_told_B fDef
  refine ⟨rfl, ?_⟩
  have hs := dps_pl hp
  match ws, hs, hp, h with
  | [], hs, hp, h =>
    walk_at "q"
    exact Rt.now h
  | [a], hs, hp, h =>
    walk_at "q"
    refine q_t rfl ?_
    walk_at "q"
    exact Rt.now h
  | [a, b], hs, hp, h =>
    walk_at "q"
    refine q_t rfl ?_
    walk_at "q"
    exact Rt.now h
  | a :: b :: d :: e :: r, hs, hp, h =>
    walk_at "q"
    refine q_t (by simp only [List.length_cons]; rw [decide_eq_false (by omega)]; rfl) ?_
    walk_at "q"
    exact Rt.now h
  | [a, ps, f], hs, hp, h =>
    have hps := (dps_cons (dps_cons hp).2).1
    have h : P (.bl (folB ps f)) μ := h
    walk_at "q"
    refine q_f rfl ?_
    walk_at "q"
    refine sp_are_pairs hps ?_
    unfold folB at h
    cases c : pairsB ps with
    | false =>
      rw [c, Bool.false_and] at h
      walk_at "q"
      exact Rt.now h
    | true =>
      rw [c, Bool.true_and] at h
      cases ps with
      | tup us =>
        simp only at h
        walk_at "q"
        by_cases c2 : us.length ≤ 50
        · rw [decide_eq_true c2, Bool.true_and] at h
          refine q_f (decide_eq_false (by omega)) ?_
          walk_at "q"
          have hf := hs f (by simp)
          have no : keyW f = false → f ≠ .non → Rt P (.bl false) μ := fun k1 k2 => Rt.now (pb h (by
            cases f with
            | non => exact absurd rfl k2
            | str y =>
              show (isKeyB y && _) = false
              rw [show isKeyB y = false from k1]
              rfl
            | _ => rfl))
          have main : ∀ (g : W), f = g → (g = .non ∨ ∃ y, g = .str y ∧ isKeyB y = true) → (match us.getLast? with
              | none => Rt P (.bl true) μ
              | some (.tup (.str k :: _)) => (match g with
                | .str y => Rt P (.bl (sLt k y)) μ
                | _ => Rt P (.bl true) μ)
              | some _ => True) := fun g e hg => by
            subst e
            rcases last_cases us with rfl | ⟨ys, y, rfl⟩
            · rcases hg with rfl | ⟨y, rfl, ky⟩
              · exact Rt.now h
              · simp only at h
                rw [ky] at h
                exact Rt.now h
            · rw [List.getLast?_concat] at h ⊢
              obtain ⟨k, v, rfl, _, _⟩ := pairB_some (ris_last c)
              rcases hg with rfl | ⟨y, rfl, ky⟩
              · exact Rt.now h
              · simp only at h
                rw [ky, Bool.true_and] at h
                exact Rt.now h
          have tail : ∀ (g : W), f = g → (g = .non ∨ ∃ y, g = .str y ∧ isKeyB y = true) → ∀ N : En, (N.rt = fun w μ1 => Rt P w μ1) → (sRt (eOr (eOp wEqu (eB bLen (aCons (eV 2) (aNil))) (eC (.int 0))) (eCall f_below (aCons (eOp wIx (eOp wIx (eV 2) (eUn wNeg (eC (.int 1)))) (eC (.int 0))) (aCons (eV 3) (aNil)))))) [some (.tup [a, .tup us, f]), some a, some (.tup us), some g] μ N := fun g e hg N hN => by
            have m := main g e hg
            rcases last_cases us with rfl | ⟨ys, y, rfl⟩
            · walk_at "q"
              show N.rt _ _
              rw [hN]
              exact m
            · rw [List.getLast?_concat] at m
              obtain ⟨k, v, rfl, _, _⟩ := pairB_some (ris_last c)
              have hl : decide ((((ys ++ [W.tup [.str k, v]]).length : Nat) : Int) = 0) = false := decide_eq_false (by rw [List.length_append, List.length_singleton]; omega)
              walk_at "q"
              rw [pick_lastW]
              walk_at "q"
              rcases hg with rfl | ⟨y, rfl, ky⟩
              · refine sp_below (y := none) ?_
                show N.rt _ _
                rw [hN]
                exact m
              · refine sp_below (y := some y) ?_
                show N.rt _ _
                rw [hN]
                exact m
          cases f with
          | non =>
            walk_at "q"
            exact tail .non rfl (.inl rfl) _ rfl
          | str y =>
            walk_at "q"
            refine sp_key hf ?_
            cases c3 : keyW (.str y) with
            | false =>
              walk_at "q"
              exact no c3 (by simp)
            | true =>
              walk_at "q"
              exact tail (.str y) rfl (.inr ⟨y, rfl, c3⟩) _ rfl
          | bl b =>
            walk_at "q"
            refine sp_key hf ?_
            walk_at "q"
            exact no rfl (by simp)
          | int b =>
            walk_at "q"
            refine sp_key hf ?_
            walk_at "q"
            exact no rfl (by simp)
          | tup b =>
            walk_at "q"
            refine sp_key hf ?_
            walk_at "q"
            exact no rfl (by simp)
          | lst b =>
            walk_at "q"
            refine sp_key hf ?_
            walk_at "q"
            exact no rfl (by simp)
          | _ => cases hf
        · rw [decide_eq_false c2, Bool.false_and] at h
          refine q_t (decide_eq_true (by omega)) ?_
          walk_at "q"
          exact Rt.now h
      | _ => cases c
/-- answers -/
def ansB : List W → Bool
  | .str k :: r => if k = "value" ∨ k = "other" then len2 (.str k :: r) valB else if k = "none" ∨ k = "done" then decide (r = []) else if k = "page" then pageB (.str k :: r) else false
  | _ => false
def ansW : W → Bool
  | .tup ws => ansB ws
  | _ => false
theorem sp_ansK {w : W} {μ : Mu} {P : Po} {X : Xo} (hp : dp w = true) (hk : kindW w = "") (h : P (.bl false) μ) : f_is_answer [w] μ P X := by
  rw [f_is_answer_eq]; unfold f_is_answer_B fDef
  refine ⟨rfl, ?_⟩
  walk_at "q"
  refine sp_kind hp ?_
  rw [hk]
  walk_at "q"
  exact Rt.now h
theorem sp_ansS {k : Str} {r : List W} {μ : Mu} {P : Po} {X : Xo} (hp : dps (.str k :: r) = true) (h : P (.bl (ansB (.str k :: r))) μ) : f_is_answer [.tup (.str k :: r)] μ P X := by
  rw [f_is_answer_eq]; unfold f_is_answer_B fDef
  refine ⟨rfl, ?_⟩
  walk_at "q"
  refine sp_kind_tup ?_
  walk_at "q"
  have h : P (.bl (if k = "value" ∨ k = "other" then len2 (.str k :: r) valB else if k = "none" ∨ k = "done" then decide (r = []) else if k = "page" then pageB (.str k :: r) else false)) μ := h
  by_cases hm : k ∈ (["value", "none", "done", "other", "page"] : List Str)
  · simp only [List.mem_cons, List.not_mem_nil, or_false] at hm
    rcases hm with rfl | rfl | rfl | rfl | rfl
    · rw [if_pos (.inl rfl)] at h
      walk_at "q"
      refine q_cl (f := f__is_value_told) (by walk_at "lk") ?_
      walk_at "q"
      refine sp__is_value_told hp ?_
      exact Rt.now h
    · rw [if_neg (by decide +kernel), if_pos (.inl rfl)] at h
      walk_at "q"
      refine q_cl (f := f__is_word_alone) (by walk_at "lk") ?_
      walk_at "q"
      refine sp__is_word_alone ?_
      refine Rt.now (pb h (decide_eq_decide.mpr ?_))
      cases r <;> simp
      omega
    · rw [if_neg (by decide +kernel), if_pos (.inr rfl)] at h
      walk_at "q"
      refine q_cl (f := f__is_word_alone) (by walk_at "lk") ?_
      walk_at "q"
      refine sp__is_word_alone ?_
      refine Rt.now (pb h (decide_eq_decide.mpr ?_))
      cases r <;> simp
      omega
    · rw [if_pos (.inr rfl)] at h
      walk_at "q"
      refine q_cl (f := f__is_value_told) (by walk_at "lk") ?_
      walk_at "q"
      refine sp__is_value_told hp ?_
      exact Rt.now h
    · rw [if_neg (by decide +kernel), if_neg (by decide +kernel), if_pos rfl] at h
      walk_at "q"
      refine q_cl (f := f__is_page_told) (by walk_at "lk") ?_
      walk_at "q"
      refine sp__is_page_told hp ?_
      exact Rt.now h
  · have n := hm
    simp only [List.mem_cons, List.not_mem_nil, or_false, not_or] at hm
    obtain ⟨h1, h2, h3, h4, h5⟩ := hm
    rw [if_neg (by exact fun z => z.elim h1 h4), if_neg (by exact fun z => z.elim h2 h3), if_neg h5] at h
    refine q_t (by
      rw [show decide (k ∈ ([("value", W.fn "_is_value_told"), ("none", .fn "_is_word_alone"), ("done", .fn "_is_word_alone"), ("other", .fn "_is_value_told"), ("page", .fn "_is_page_told")] : List (Str × W)).map (·.1)) = false from decide_eq_false n]
      rfl) ?_
    walk_at "q"
    exact Rt.now h
theorem sp_ans {w : W} {μ : Mu} {P : Po} {X : Xo} (hp : dp w = true) (h : P (.bl (ansW w)) μ) : f_is_answer [w] μ P X := by
  cases w with
  | tup ws =>
    have hs := dp_tup hp
    cases ws with
    | nil => exact sp_ansK hp rfl h
    | cons a r =>
      cases a with
      | str k => exact sp_ansS hs h
      | non => exact sp_ansK hp rfl h
      | bl b => exact sp_ansK hp rfl h
      | int i => exact sp_ansK hp rfl h
      | tup us => exact sp_ansK hp rfl h
      | lst us => exact sp_ansK hp rfl h
      | _ => have := (dps_cons hs).1; unfold dp at this; cases this
  | non => exact sp_ansK hp rfl h
  | bl b => exact sp_ansK hp rfl h
  | int i => exact sp_ansK hp rfl h
  | str z => exact sp_ansK hp rfl h
  | lst us => exact sp_ansK hp rfl h
  | _ => unfold dp at hp; cases hp
end Q
namespace Q
open PySem L2
local macro_rules | `(tactic| walk_at "mu") => `(tactic| (repeat (first | exact mset_same | assumption | (rw [mset_ne]; rotate_left; (first | assumption | exact Ne.symm (by assumption))))))
local macro_rules | `(tactic| walk_at "lk") => `(tactic| (repeat (first | exact lk_hit | exact lk_nil | refine lk_skip (by decide +kernel) ?_)))
local macro_rules | `(tactic| walk_at "pf") => `(tactic| (repeat (first | rw [pf_nil] | rw [pf_hit] | (rw [pf_skip]; rotate_left; (focus (decide +kernel; done))))))
local macro_rules | `(tactic| walk_at "q") => `(tactic| ((with_reducible conv => whnf); repeat (first
  | (with_reducible refine q_t (by assumption) ?_; with_reducible conv => whnf)
  | (with_reducible refine q_f (by assumption) ?_; with_reducible conv => whnf)
  | (with_reducible refine q_t (by with_reducible rfl) ?_; with_reducible conv => whnf)
  | (with_reducible refine q_f (by with_reducible rfl) ?_; with_reducible conv => whnf)
  | (with_reducible refine q_t (by decide) ?_; with_reducible conv => whnf)
  | (with_reducible refine q_f (by decide) ?_; with_reducible conv => whnf)
  | (with_reducible refine q_t (decide_eq_true (by omega)) ?_; with_reducible conv => whnf)
  | (with_reducible refine q_f (decide_eq_false (by omega)) ?_; with_reducible conv => whnf)
  | (with_reducible refine q_f (q_nn (by omega)) ?_; with_reducible conv => whnf)
  | (with_reducible refine q_t (q_nt (by omega)) ?_; with_reducible conv => whnf)
  | (with_reducible refine q_len (by with_unfolding_all rfl) ?_; with_reducible conv => whnf)
  | (with_reducible refine q_leq (by with_unfolding_all rfl) ?_; with_reducible conv => whnf)
  | (with_reducible refine q_and (by first | assumption | exact True.intro | omega | (simp only [List.length_map, List.length_append, List.length_cons, List.length_nil]; omega) | decide) ?_; with_reducible conv => whnf)
  | (with_reducible refine q_le (by with_unfolding_all rfl) ?_; with_reducible conv => whnf)
  | (with_reducible refine q_and tyL_lst ?_; with_reducible conv => whnf)
  | (with_reducible refine q_and tyL_rol ?_; with_reducible conv => whnf)
  | (with_reducible refine q_and (tyL_ref (by walk_at "mu")) ?_; with_reducible conv => whnf)
  | (with_reducible refine q_and (tyD_ref (by walk_at "mu")) ?_; with_reducible conv => whnf)
  | (with_reducible refine q_and (rdD_ref (by walk_at "mu")) ?_; with_reducible conv => whnf)
  | (rw [pick_c0]; with_reducible conv => whnf)
  | (rw [pick_c1]; with_reducible conv => whnf)
  | (rw [pick_c2]; with_reducible conv => whnf)
  | (rw [pick_c3]; with_reducible conv => whnf)
  | (rw [pick_c4]; with_reducible conv => whnf)
  | (rw [pick_c5]; with_reducible conv => whnf)
  | (rw [mset_same]; with_reducible conv => whnf)
  | (rw [mset_ne (by assumption)]; with_reducible conv => whnf)
  | (rw [mset_ne]; rotate_left; (first | assumption | exact Ne.symm (by assumption)); with_reducible conv => whnf)
  | (rw [rdL_ref]; rotate_left; (focus (walk_at "mu"; done)); with_reducible conv => whnf)
  | (rw [rdL_refD]; rotate_left; (focus (walk_at "mu"; done)); with_reducible conv => whnf)
  | (rw [rdD_refD]; rotate_left; (focus (walk_at "mu"; done)); with_reducible conv => whnf)
  | (rw [rdM_ref]; rotate_left; (focus (walk_at "mu"; done)); with_reducible conv => whnf)
  | (rw [rdL_refK]; rotate_left; (focus (walk_at "mu"; done)); with_reducible conv => whnf)
  | (rw [rdD_refK]; rotate_left; (focus (walk_at "mu"; done)); with_reducible conv => whnf)
  | (rw [tyW_refL]; rotate_left; (focus (walk_at "mu"; done)); with_reducible conv => whnf)
  | (rw [tyW_refD]; rotate_left; (focus (walk_at "mu"; done)); with_reducible conv => whnf)
  | (rw [drf_ref]; rotate_left; (focus (walk_at "mu"; done)); with_reducible conv => whnf)
  | ((conv => (arg 2; tactic' => (walk_at "mu"; done))); with_reducible conv => whnf)
  | (with_reducible refine q_and (Eq.refl _) ?_; with_reducible conv => whnf)
  | (with_reducible refine q_and (MulO.r (by decide)) ?_; with_reducible conv => whnf)
  | (with_reducible refine q_and (MulO.l (by decide)) ?_; with_reducible conv => whnf)
  | (with_reducible refine q_and (MulO.r (by omega)) ?_; with_reducible conv => whnf)
  | (with_reducible refine q_and (MulO.l (by omega)) ?_; with_reducible conv => whnf)
  | (with_reducible refine q_pow (by decide) ?_; with_reducible conv => whnf)
  | (with_reducible refine q_nisT (by first | assumption | with_reducible rfl) ?_; with_reducible conv => whnf)
  | (with_reducible refine q_nisF (by first | assumption | with_reducible rfl) ?_; with_reducible conv => whnf)
  | (with_reducible refine q_eqI ?_; with_reducible conv => whnf)
  | (with_reducible refine q_eqS ?_; with_reducible conv => whnf)
  | (with_reducible refine q_eqB ?_; with_reducible conv => whnf)
  | (with_reducible refine q_neI ?_; with_reducible conv => whnf)
  | (with_reducible refine q_neS ?_; with_reducible conv => whnf)
  | (with_reducible refine q_neB ?_; with_reducible conv => whnf)
  | (with_reducible refine q_memc ?_; with_reducible conv => whnf)
  | (with_reducible refine q_lkn (by walk_at "lk") ?_; with_reducible conv => whnf)
  | (with_reducible refine q_tix (by walk_at "lk"; done) ?_; with_reducible conv => whnf)
  | (with_reducible refine q_tin ?_; with_reducible conv => whnf)
  | (rw [pf_hit]; with_reducible conv => whnf)
  | (rw [pf_skip]; rotate_left; (focus (decide +kernel; done)); with_reducible conv => whnf)
  | (rw [lk_hit]; with_reducible conv => whnf)
  | (rw [lk_skip1]; rotate_left; (focus (decide +kernel; done)); with_reducible conv => whnf))))
/-! letters: ranges, contents -/
def ltW (a b : W) : Bool := match a, b with
  | .str x, .str y => sLt x y
  | _, _ => false
def rangeW (a b : W) : Bool := boundW a && (match b with
  | .non => true
  | .str y => isKeyB y && ltW a (.str y)
  | _ => false)
theorem bound_str {a : W} (h : boundW a = true) : ∃ x, a = .str x := by
  cases a with
  | str x => exact ⟨x, rfl⟩
  | _ => cases h
theorem sp_is_range {a b : W} {μ : Mu} {P : Po} {X : Xo} (ha : pl a = true) (hb : pl b = true) (h : P (.bl (rangeW a b)) μ) : f_is_range [a, b] μ P X := by
  rw [f_is_range_eq]; unfold f_is_range_B fDef
  refine ⟨rfl, ?_⟩
  walk_at "q"
  refine sp_bound ha ?_
  unfold rangeW at h
  cases c : boundW a with
  | false =>
    rw [c, Bool.false_and] at h
    walk_at "q"
    exact Rt.now h
  | true =>
    rw [c, Bool.true_and] at h
    obtain ⟨x, rfl⟩ := bound_str c
    cases b with
    | non =>
      walk_at "q"
      exact Rt.now h
    | str y =>
      have h : P (.bl (isKeyB y && sLt x y)) μ := h
      walk_at "q"
      refine sp_key hb ?_
      cases c2 : keyW (.str y) with
      | false =>
        rw [show isKeyB y = false from c2, Bool.false_and] at h
        walk_at "q"
        exact Rt.now h
      | true =>
        rw [show isKeyB y = true from c2, Bool.true_and] at h
        walk_at "q"
        exact Rt.now h
    | bl i =>
      walk_at "q"
      refine sp_key hb ?_
      walk_at "q"
      exact Rt.now h
    | int i =>
      walk_at "q"
      refine sp_key hb ?_
      walk_at "q"
      exact Rt.now h
    | tup i =>
      walk_at "q"
      refine sp_key hb ?_
      walk_at "q"
      exact Rt.now h
    | lst i =>
      walk_at "q"
      refine sp_key hb ?_
      walk_at "q"
      exact Rt.now h
    | _ => cases hb
def numW (w : W) : Bool := intB w 1 1000000000000
theorem sp_is_number {w : W} {μ : Mu} {P : Po} {X : Xo} (hp : pl w = true) (h : P (.bl (numW w)) μ) : f_is_number [w] μ P X := by
  rw [f_is_number_eq]; unfold f_is_number_B fDef
  refine ⟨rfl, ?_⟩
  walk_at "q"
  refine sp_int hp ?_
  exact Rt.now h
theorem sp_is_server {w : W} {n : Int} {μ : Mu} {P : Po} {X : Xo} (hp : pl w = true) (h : P (.bl (intB w 0 (n - 1))) μ) : f_is_server [.int n, w] μ P X := by
  rw [f_is_server_eq]; unfold f_is_server_B fDef
  refine ⟨rfl, ?_⟩
  walk_at "q"
  refine sp_int hp ?_
  exact Rt.now h
/-- a range and an epoch behind the kind -/
def shardB : List W → Bool
  | _ :: a :: b :: e :: _ => rangeW a b && numW e
  | _ => false
theorem sp_names_shard {ws : List W} {n : Nat} {μ : Mu} {P : Po} {X : Xo} (hn : 4 ≤ n) (hp : dps ws = true) (h : P (.bl (decide (ws.length = n) && shardB ws)) μ) : f_names_shard [.tup ws, .int n] μ P X := by
  rw [f_names_shard_eq]; unfold f_names_shard_B fDef
  refine ⟨rfl, ?_⟩
  have hs := dps_pl hp
  by_cases c : ws.length = n
  · rw [decide_eq_true c, Bool.true_and] at h
    match ws, hs, h, c with
    | [], _, _, c => rw [← c] at hn; simp at hn
    | [_], _, _, c => rw [← c] at hn; simp at hn
    | [_, _], _, _, c => rw [← c] at hn; simp at hn
    | [_, _, _], _, _, c => rw [← c] at hn; simp at hn
    | k :: a :: b :: e :: r, hs, h, c =>
      have h : P (.bl (rangeW a b && numW e)) μ := h
      have c3 : decide (((k :: a :: b :: e :: r).length : Int) = (n : Int)) = true := decide_eq_true (by omega)
      walk_at "q"
      refine sp_is_range (hs a (by simp)) (hs b (by simp)) ?_
      cases c2 : rangeW a b with
      | false =>
        rw [c2, Bool.false_and] at h
        walk_at "q"
        exact Rt.now h
      | true =>
        rw [c2, Bool.true_and] at h
        walk_at "q"
        refine sp_is_number (hs e (by simp)) ?_
        exact Rt.now h
  · rw [decide_eq_false c, Bool.false_and] at h
    have c3 : decide ((ws.length : Int) = (n : Int)) = false := decide_eq_false (by omega)
    walk_at "q"
    exact Rt.now h
/-- keys in a range -/
def inB (a b : W) (w : W) : Bool := match w with
  | .tup (k :: _) => (match a, k with
    | .str x, .str z => !sLt z x && (match b with
      | .str y => sLt z y
      | _ => true)
    | _, _ => false)
  | _ => false
def inPairs (a b : W) (w : W) : Bool := pairsB w && (match w with
  | .tup ws => ws.all (inB a b)
  | _ => false)
theorem ris_mem : ∀ {z : Str} {ws : List W}, risB z ws = true → ∀ w ∈ ws, pairB w = true
  | z, [], _, w, hw => by cases hw
  | z, x :: ws, h, w, hw => by
    cases e : pairB x with
    | false =>
      rw [risB_no e] at h
      cases h
    | true =>
      obtain ⟨k, v, rfl, _, _⟩ := pairB_some e
      have h : ((isKeyB k && valB v) && (sLt z k && risB k ws)) = true := h
      rcases List.mem_cons.mp hw with rfl | hw
      · exact e
      · exact ris_mem (Bool.and_eq_true_iff.mp (Bool.and_eq_true_iff.mp h).2).2 w hw
theorem sp_is_pairs {a b w : W} {μ : Mu} {P : Po} {X : Xo} (hr : rangeW a b = true) (hp : dp w = true) (h : P (.bl (inPairs a b w)) μ) : f_is_pairs [a, b, w] μ P X := by
  rw [f_is_pairs_eq]; unfold f_is_pairs_B fDef
  refine ⟨rfl, ?_⟩
  walk_at "q"
  refine sp_are_pairs hp ?_
  unfold inPairs at h
  cases c : pairsB w with
  | false =>
    rw [c, Bool.false_and] at h
    walk_at "q"
    exact Rt.now h
  | true =>
    rw [c, Bool.true_and] at h
    cases w with
    | tup ws =>
      have c : risB "" ws = true := c
      have hm := ris_mem c
      have h : P (.bl (ws.all (inB a b))) μ := h
      obtain ⟨x, rfl⟩ := bound_str (Bool.and_eq_true_iff.mp hr).1
      have hb : b = .non ∨ ∃ y, b = .str y := by
        have := (Bool.and_eq_true_iff.mp hr).2
        cases b with
        | non => exact .inl rfl
        | str y => exact .inr ⟨y, rfl⟩
        | _ => cases this
      walk_at "q"
      refine itS_ws (fun done rest ρ μ' => μ' = μ ∧ (∀ u ∈ rest, pairB u = true) ∧ ∃ (x3 x4 : Option W), ρ = [some (.str x), some b, some (.tup ws), x3, x4] ∧ ws.all (inB (.str x) b) = rest.all (inB (.str x) b)) ws ⟨rfl, hm, none, none, rfl, rfl⟩ ?_ ?_
      · rintro done u rest ρ μ' ⟨rfl, hu, x3, x4, rfl, e⟩
        refine ⟨trivial, fun K hK => ?_⟩
        obtain ⟨k, v, rfl, k1, k2⟩ := pairB_some (hu u List.mem_cons_self)
        rw [List.all_cons] at e
        have go : ∀ t : Bool, inB (.str x) b (.tup [.str k, v]) = t → (if t = true then K [some (.str x), some b, some (.tup ws), some (.str k), some v] μ' else Rt P (.bl false) μ') := fun t ht => by
          cases t with
          | true =>
            rw [ht, Bool.true_and] at e
            exact hK _ _ ⟨rfl, fun u h => hu u (List.mem_cons_of_mem _ h), _, _, rfl, e⟩
          | false =>
            rw [ht, Bool.false_and] at e
            exact Rt.now (pb h e)
        walk_at "q"
        rw [f_contains_eq]; unfold f_contains_B fDef
        refine ⟨rfl, ?_⟩
        walk_at "q"
        refine q_if (fun c2 => ?_) fun c2 => ?_
        · walk_at "q"
          rcases hb with rfl | ⟨y, rfl⟩
          · refine sp_below (y := none) ?_
            have e2 : inB (.str x) .non (.tup [.str k, v]) = true := by show (!sLt k x && true) = true; rw [c2]; rfl
            have g := go _ e2
            refine Rt.now ?_
            walk_at "q"
            exact g
          · refine sp_below (y := some y) ?_
            have e2 : inB (.str x) (.str y) (.tup [.str k, v]) = sLt k y := by show (!sLt k x && sLt k y) = _; rw [c2]; rfl
            have g := go _ e2
            refine Rt.now ?_
            show if (!sLt k y) = true then _ else _
            cases c4 : sLt k y with
            | true =>
              rw [c4] at g
              walk_at "q"
              exact g
            | false =>
              rw [c4] at g
              walk_at "q"
              exact g
        · have e2 : inB (.str x) b (.tup [.str k, v]) = false := by
            show (!sLt k x && _) = false
            rw [c2]
            rfl
          have g := go _ e2
          refine Rt.now ?_
          walk_at "q"
          exact g
      · rintro done ρ μ' ⟨rfl, hu, x3, x4, rfl, e⟩
        refine ⟨trivial, ?_⟩
        walk_at "q"
        exact Rt.now (pb h e)
    | _ => cases c
/-- sessions -/
def rowB : W → Bool
  | .tup [c, n, a] => intB c (-100) (-1) && (numW n && ansW a)
  | _ => false
def lastOk : Option Int → Int → Bool
  | none, _ => true
  | some l, i => decide (l < i)
def rowsL : Option Int → List W → Bool
  | _, [] => true
  | l, .tup [.int c, n, a] :: r => (intB (.int c) (-100) (-1) && (numW n && ansW a)) && (lastOk l c && rowsL (some c) r)
  | _, _ => false
def rowsW : W → Bool
  | .tup ws => rowsL none ws
  | _ => false
theorem rowB_some {w : W} (h : rowB w = true) : ∃ (c : Int) (n a : W), w = .tup [.int c, n, a] ∧ (intB (.int c) (-100) (-1) && (numW n && ansW a)) = true := by
  unfold rowB at h
  split at h
  · rename_i c n a
    cases c with
    | int c => exact ⟨c, n, a, rfl, h⟩
    | _ => cases h
  · cases h
theorem rowsL_no {l : Option Int} {w : W} {r : List W} (h : rowB w = false) : rowsL l (w :: r) = false := by
  unfold rowsL
  split
  · rename_i e
    cases e
  · rename_i c n a r' e
    cases e
    have h : (intB (.int c) (-100) (-1) && (numW n && ansW a)) = false := h
    rw [h]
    rfl
  · rfl
end Q
namespace Q
open PySem L2
local macro_rules | `(tactic| walk_at "mu") => `(tactic| (repeat (first | exact mset_same | assumption | (rw [mset_ne]; rotate_left; (first | assumption | exact Ne.symm (by assumption))))))
local macro_rules | `(tactic| walk_at "lk") => `(tactic| (repeat (first | exact lk_hit | exact lk_nil | refine lk_skip (by decide +kernel) ?_)))
local macro_rules | `(tactic| walk_at "pf") => `(tactic| (repeat (first | rw [pf_nil] | rw [pf_hit] | (rw [pf_skip]; rotate_left; (focus (decide +kernel; done))))))
local macro_rules | `(tactic| walk_at "q") => `(tactic| ((with_reducible conv => whnf); repeat (first
  | (with_reducible refine q_t (by assumption) ?_; with_reducible conv => whnf)
  | (with_reducible refine q_f (by assumption) ?_; with_reducible conv => whnf)
  | (with_reducible refine q_t (by with_reducible rfl) ?_; with_reducible conv => whnf)
  | (with_reducible refine q_f (by with_reducible rfl) ?_; with_reducible conv => whnf)
  | (with_reducible refine q_t (by decide) ?_; with_reducible conv => whnf)
  | (with_reducible refine q_f (by decide) ?_; with_reducible conv => whnf)
  | (with_reducible refine q_t (decide_eq_true (by omega)) ?_; with_reducible conv => whnf)
  | (with_reducible refine q_f (decide_eq_false (by omega)) ?_; with_reducible conv => whnf)
  | (with_reducible refine q_f (q_nn (by omega)) ?_; with_reducible conv => whnf)
  | (with_reducible refine q_t (q_nt (by omega)) ?_; with_reducible conv => whnf)
  | (with_reducible refine q_len (by with_unfolding_all rfl) ?_; with_reducible conv => whnf)
  | (with_reducible refine q_leq (by with_unfolding_all rfl) ?_; with_reducible conv => whnf)
  | (with_reducible refine q_and (by first | assumption | exact True.intro | omega | (simp only [List.length_map, List.length_append, List.length_cons, List.length_nil]; omega) | decide) ?_; with_reducible conv => whnf)
  | (with_reducible refine q_le (by with_unfolding_all rfl) ?_; with_reducible conv => whnf)
  | (with_reducible refine q_and tyL_lst ?_; with_reducible conv => whnf)
  | (with_reducible refine q_and tyL_rol ?_; with_reducible conv => whnf)
  | (with_reducible refine q_and (tyL_ref (by walk_at "mu")) ?_; with_reducible conv => whnf)
  | (with_reducible refine q_and (tyD_ref (by walk_at "mu")) ?_; with_reducible conv => whnf)
  | (with_reducible refine q_and (rdD_ref (by walk_at "mu")) ?_; with_reducible conv => whnf)
  | (rw [pick_c0]; with_reducible conv => whnf)
  | (rw [pick_c1]; with_reducible conv => whnf)
  | (rw [pick_c2]; with_reducible conv => whnf)
  | (rw [pick_c3]; with_reducible conv => whnf)
  | (rw [pick_c4]; with_reducible conv => whnf)
  | (rw [pick_c5]; with_reducible conv => whnf)
  | (rw [mset_same]; with_reducible conv => whnf)
  | (rw [mset_ne (by assumption)]; with_reducible conv => whnf)
  | (rw [mset_ne]; rotate_left; (first | assumption | exact Ne.symm (by assumption)); with_reducible conv => whnf)
  | (rw [rdL_ref]; rotate_left; (focus (walk_at "mu"; done)); with_reducible conv => whnf)
  | (rw [rdL_refD]; rotate_left; (focus (walk_at "mu"; done)); with_reducible conv => whnf)
  | (rw [rdD_refD]; rotate_left; (focus (walk_at "mu"; done)); with_reducible conv => whnf)
  | (rw [rdM_ref]; rotate_left; (focus (walk_at "mu"; done)); with_reducible conv => whnf)
  | (rw [rdL_refK]; rotate_left; (focus (walk_at "mu"; done)); with_reducible conv => whnf)
  | (rw [rdD_refK]; rotate_left; (focus (walk_at "mu"; done)); with_reducible conv => whnf)
  | (rw [tyW_refL]; rotate_left; (focus (walk_at "mu"; done)); with_reducible conv => whnf)
  | (rw [tyW_refD]; rotate_left; (focus (walk_at "mu"; done)); with_reducible conv => whnf)
  | (rw [drf_ref]; rotate_left; (focus (walk_at "mu"; done)); with_reducible conv => whnf)
  | ((conv => (arg 2; tactic' => (walk_at "mu"; done))); with_reducible conv => whnf)
  | (with_reducible refine q_and (Eq.refl _) ?_; with_reducible conv => whnf)
  | (with_reducible refine q_and (MulO.r (by decide)) ?_; with_reducible conv => whnf)
  | (with_reducible refine q_and (MulO.l (by decide)) ?_; with_reducible conv => whnf)
  | (with_reducible refine q_and (MulO.r (by omega)) ?_; with_reducible conv => whnf)
  | (with_reducible refine q_and (MulO.l (by omega)) ?_; with_reducible conv => whnf)
  | (with_reducible refine q_pow (by decide) ?_; with_reducible conv => whnf)
  | (with_reducible refine q_nisT (by first | assumption | with_reducible rfl) ?_; with_reducible conv => whnf)
  | (with_reducible refine q_nisF (by first | assumption | with_reducible rfl) ?_; with_reducible conv => whnf)
  | (with_reducible refine q_eqI ?_; with_reducible conv => whnf)
  | (with_reducible refine q_eqS ?_; with_reducible conv => whnf)
  | (with_reducible refine q_eqB ?_; with_reducible conv => whnf)
  | (with_reducible refine q_neI ?_; with_reducible conv => whnf)
  | (with_reducible refine q_neS ?_; with_reducible conv => whnf)
  | (with_reducible refine q_neB ?_; with_reducible conv => whnf)
  | (with_reducible refine q_memc ?_; with_reducible conv => whnf)
  | (with_reducible refine q_lkn (by walk_at "lk") ?_; with_reducible conv => whnf)
  | (with_reducible refine q_tix (by walk_at "lk"; done) ?_; with_reducible conv => whnf)
  | (with_reducible refine q_tin ?_; with_reducible conv => whnf)
  | (rw [pf_hit]; with_reducible conv => whnf)
  | (rw [pf_skip]; rotate_left; (focus (decide +kernel; done)); with_reducible conv => whnf)
  | (rw [lk_hit]; with_reducible conv => whnf)
  | (rw [lk_skip1]; rotate_left; (focus (decide +kernel; done)); with_reducible conv => whnf))))
/-! letters: sessions, the eleven kinds -/
theorem sp_cli {w : W} {μ : Mu} {P : Po} {X : Xo} (hp : pl w = true) (h : P (.bl (intB w (-100) (-1))) μ) : f_is_client [w] μ P X := by
  rw [f_is_client_eq]; unfold f_is_client_B fDef
  refine ⟨rfl, ?_⟩
  walk_at "q"
  refine sp_int hp ?_
  exact Rt.now h
theorem sp__is_row {w : W} {μ : Mu} {P : Po} {X : Xo} (hp : dp w = true) (h : P (.bl (rowB w)) μ) : f__is_row [w] μ P X := by
  rw [f__is_row_eq]; unfold f__is_row_B fDef
  refine ⟨rfl, ?_⟩
  cases w with
  | tup ws =>
    have hd := dp_tup hp
    have hs := dps_pl hd
    match ws, hs, hd, h with
    | [], _, _, h =>
      walk_at "q"
      exact Rt.now h
    | [_], _, _, h =>
      walk_at "q"
      refine q_t rfl ?_
      walk_at "q"
      exact Rt.now h
    | [_, _], _, _, h =>
      walk_at "q"
      refine q_t rfl ?_
      walk_at "q"
      exact Rt.now h
    | [c, n, a], hs, hd, h =>
      have h : P (.bl (intB c (-100) (-1) && (numW n && ansW a))) μ := h
      have da := (dps_cons (dps_cons (dps_cons hd).2).2).1
      walk_at "q"
      refine q_f rfl ?_
      walk_at "q"
      refine sp_cli (hs c (by simp)) ?_
      refine q_if (fun c1 => ?_) fun c1 => ?_
      · walk_at "q"
        refine sp_is_number (hs n (by simp)) ?_
        refine q_if (fun c2 => ?_) fun c2 => ?_
        · walk_at "q"
          refine sp_ans da ?_
          exact Rt.now (pb h (by simp [c1, c2]))
        · exact Rt.now (pb h (by simp [c1, c2]))
      · exact Rt.now (pb h (by simp [c1]))
    | _ :: _ :: _ :: _ :: r, _, _, h =>
      walk_at "q"
      refine q_t (by simp only [List.length_cons]; rw [decide_eq_false (by omega)]; rfl) ?_
      walk_at "q"
      exact Rt.now h
  | non =>
    walk_at "q"
    exact Rt.now h
  | bl b =>
    walk_at "q"
    exact Rt.now h
  | int i =>
    walk_at "q"
    exact Rt.now h
  | str z =>
    walk_at "q"
    exact Rt.now h
  | lst us =>
    walk_at "q"
    exact Rt.now h
  | _ => unfold dp at hp; cases hp
def oI : Option Int → W
  | none => .non
  | some i => .int i
theorem sp_is_rows {w : W} {μ : Mu} {P : Po} {X : Xo} (hp : dp w = true) (h : P (.bl (rowsW w)) μ) : f_is_rows [w] μ P X := by
  rw [f_is_rows_eq]; unfold f_is_rows_B fDef
  refine ⟨rfl, ?_⟩
  cases w with
  | tup ws =>
    have hs := dp_tup hp
    walk_at "q"
    refine itS_ws (fun done rest ρ μ' => μ' = μ ∧ dps rest = true ∧ ∃ (z : Option Int) (x2 : Option W), ρ = [some (.tup ws), some (oI z), x2] ∧ rowsL none ws = rowsL z rest) ws ⟨rfl, hs, none, none, rfl, rfl⟩ ?_ ?_
    · rintro done a rest ρ μ' ⟨rfl, hd, z, x2, rfl, e⟩
      obtain ⟨ha, hr⟩ := dps_cons hd
      refine ⟨trivial, fun K hK => ?_⟩
      walk_at "q"
      refine sp__is_row ha ?_
      cases c : rowB a with
      | false =>
        rw [rowsL_no c] at e
        walk_at "q"
        exact Rt.now (pb h e)
      | true =>
        obtain ⟨k, n, v, rfl, k1⟩ := rowB_some c
        have e2 : rowsL z (.tup [.int k, n, v] :: rest) = ((intB (.int k) (-100) (-1) && (numW n && ansW v)) && (lastOk z k && rowsL (some k) rest)) := rfl
        rw [k1, Bool.true_and] at e2
        cases z with
        | none =>
          rw [show lastOk none k = true from rfl, Bool.true_and] at e2
          walk_at "q"
          exact hK _ _ ⟨rfl, hr, some k, _, rfl, by rw [e, e2]⟩
        | some l =>
          have eo : oI (some l) = .int l := rfl
          rw [eo]
          walk_at "q"
          refine q_ifP (fun c3 => ?_) fun c3 => ?_
          · rw [show lastOk (some l) k = false from decide_eq_false (by omega), Bool.false_and] at e2
            walk_at "q"
            exact Rt.now (pb h (by rw [show rowsW (.tup ws) = rowsL none ws from rfl, e, e2]))
          · rw [show lastOk (some l) k = true from decide_eq_true (by omega), Bool.true_and] at e2
            walk_at "q"
            exact hK _ _ ⟨rfl, hr, some k, _, rfl, by rw [e, e2]⟩
    · rintro done ρ μ' ⟨rfl, hd, z, x2, rfl, e⟩
      refine ⟨trivial, ?_⟩
      walk_at "q"
      exact Rt.now (pb h e)
  | non =>
    walk_at "q"
    exact Rt.now h
  | bl b =>
    walk_at "q"
    exact Rt.now h
  | int i =>
    walk_at "q"
    exact Rt.now h
  | str z =>
    walk_at "q"
    exact Rt.now h
  | lst us =>
    walk_at "q"
    exact Rt.now h
  | _ => unfold dp at hp; cases hp
/-- the forms -/
def fAsk : List W → Bool
  | [_, n, o] => numW n && opW o
  | _ => false
def fTold : List W → Bool
  | [_, n, o] => numW n && ansW o
  | _ => false
def fNames (n : Int) (ws : List W) : Bool := (decide (ws.length = 5) && shardB ws) && (match ws with
  | [_, _, _, _, s] => intB s 0 (n - 1)
  | _ => false)
def fSplit (ws : List W) : Bool := (decide (ws.length = 5) && shardB ws) && (match ws with
  | [_, a, b, _, m] => keyW m && (ltW a m && (match b with
    | .str _ => ltW m b
    | _ => true))
  | _ => false)
def fJoin : List W → Bool
  | [_, a, m, e, b, o] => (rangeW a m && rangeW m b) && (numW e && numW o)
  | _ => false
def fHave (ws : List W) : Bool := (decide (ws.length = 6) && shardB ws) && (match ws with
  | [_, _, _, _, s, m] => intB s 0 1000000000000 && boundW m
  | _ => false)
def fContent (ws : List W) : Bool := (decide (ws.length = 6) && shardB ws) && (match ws with
  | [_, a, b, _, p, r] => inPairs a b p && rowsW r
  | _ => false)
theorem sp__is_ask {n : W} {ws : List W} {μ : Mu} {P : Po} {X : Xo} (hp : dps ws = true) (h : P (.bl (fAsk ws)) μ) : f__is_ask [n, .tup ws] μ P X := by
  rw [f__is_ask_eq]; unfold f__is_ask_B fDef
  refine ⟨rfl, ?_⟩
  have hs := dps_pl hp
  match ws, hs, hp, h with
  | [], _, _, h =>
    walk_at "q"
    exact Rt.now h
  | [_], _, _, h =>
    walk_at "q"
    refine q_f rfl ?_
    exact Rt.now h
  | [_, _], _, _, h =>
    walk_at "q"
    refine q_f rfl ?_
    exact Rt.now h
  | [k, a, b], hs, hp, h =>
    have h : P (.bl (numW a && opW b)) μ := h
    have db := (dps_cons (dps_cons (dps_cons hp).2).2).1
    walk_at "q"
    refine q_t rfl ?_
    walk_at "q"
    refine sp_is_number (hs a (by simp)) ?_
    refine q_if (fun c => ?_) fun c => ?_
    · walk_at "q"
      refine sp_op db ?_
      exact Rt.now (pb h (by simp [c]))
    · exact Rt.now (pb h (by simp [c]))
  | _ :: _ :: _ :: _ :: r, _, _, h =>
    walk_at "q"
    refine q_f (decide_eq_false (by simp only [List.length_cons]; omega)) ?_
    exact Rt.now h
theorem sp__is_told {n : W} {ws : List W} {μ : Mu} {P : Po} {X : Xo} (hp : dps ws = true) (h : P (.bl (fTold ws)) μ) : f__is_told [n, .tup ws] μ P X := by
  rw [f__is_told_eq]; unfold f__is_told_B fDef
  refine ⟨rfl, ?_⟩
  have hs := dps_pl hp
  match ws, hs, hp, h with
  | [], _, _, h =>
    walk_at "q"
    exact Rt.now h
  | [_], _, _, h =>
    walk_at "q"
    refine q_f rfl ?_
    exact Rt.now h
  | [_, _], _, _, h =>
    walk_at "q"
    refine q_f rfl ?_
    exact Rt.now h
  | [k, a, b], hs, hp, h =>
    have h : P (.bl (numW a && ansW b)) μ := h
    have db := (dps_cons (dps_cons (dps_cons hp).2).2).1
    walk_at "q"
    refine q_t rfl ?_
    walk_at "q"
    refine sp_is_number (hs a (by simp)) ?_
    refine q_if (fun c => ?_) fun c => ?_
    · walk_at "q"
      refine sp_ans db ?_
      exact Rt.now (pb h (by simp [c]))
    · exact Rt.now (pb h (by simp [c]))
  | _ :: _ :: _ :: _ :: r, _, _, h =>
    walk_at "q"
    refine q_f (decide_eq_false (by simp only [List.length_cons]; omega)) ?_
    exact Rt.now h
theorem sp__is_where {n : W} {ws : List W} {μ : Mu} {P : Po} {X : Xo} (hp : dps ws = true) (h : P (.bl (len2 ws boundW)) μ) : f__is_where [n, .tup ws] μ P X := by
  rw [f__is_where_eq]; unfold f__is_where_B fDef
  refine ⟨rfl, ?_⟩
  have hs := dps_pl hp
  match ws, hs, h with
  | [], _, h =>
    walk_at "q"
    exact Rt.now h
  | [_], _, h =>
    walk_at "q"
    refine q_f rfl ?_
    exact Rt.now h
  | [_, b], hs, h =>
    walk_at "q"
    refine q_t rfl ?_
    walk_at "q"
    refine sp_bound (hs b (by simp)) ?_
    exact Rt.now h
  | _ :: _ :: _ :: r, _, h =>
    walk_at "q"
    refine q_f (decide_eq_false (by simp only [List.length_cons]; omega)) ?_
    exact Rt.now h
theorem sp__is_elsewhere {n : W} {ws : List W} {μ : Mu} {P : Po} {X : Xo} (hp : dps ws = true) (h : P (.bl (len2 ws numW)) μ) : f__is_elsewhere [n, .tup ws] μ P X := by
  rw [f__is_elsewhere_eq]; unfold f__is_elsewhere_B fDef
  refine ⟨rfl, ?_⟩
  have hs := dps_pl hp
  match ws, hs, h with
  | [], _, h =>
    walk_at "q"
    exact Rt.now h
  | [_], _, h =>
    walk_at "q"
    refine q_f rfl ?_
    exact Rt.now h
  | [_, b], hs, h =>
    walk_at "q"
    refine q_t rfl ?_
    walk_at "q"
    refine sp_is_number (hs b (by simp)) ?_
    exact Rt.now h
  | _ :: _ :: _ :: r, _, h =>
    walk_at "q"
    refine q_f (decide_eq_false (by simp only [List.length_cons]; omega)) ?_
    exact Rt.now h
theorem len_five {ws : List W} (h : ws.length = 5) : ∃ a b c d e, ws = [a, b, c, d, e] := by
  match ws, h with
  | [a, b, c, d, e], _ => exact ⟨a, b, c, d, e, rfl⟩
theorem len_six {ws : List W} (h : ws.length = 6) : ∃ a b c d e f, ws = [a, b, c, d, e, f] := by
  match ws, h with
  | [a, b, c, d, e, f], _ => exact ⟨a, b, c, d, e, f, rfl⟩
theorem sp__names_server {n : Int} {ws : List W} {μ : Mu} {P : Po} {X : Xo} (hp : dps ws = true) (h : P (.bl (fNames n ws)) μ) : f__names_server [.int n, .tup ws] μ P X := by
  rw [f__names_server_eq]; unfold f__names_server_B fDef
  refine ⟨rfl, ?_⟩
  have hs := dps_pl hp
  unfold fNames at h
  walk_at "q"
  refine sp_names_shard (n := 5) (by decide) hp ?_
  refine q_if (fun c => ?_) fun c => ?_
  · rw [c, Bool.true_and] at h
    obtain ⟨a, b, d, e, s, rfl⟩ := len_five (of_decide_eq_true (Bool.and_eq_true_iff.mp c).1)
    walk_at "q"
    refine sp_is_server (hs s (by simp)) ?_
    exact Rt.now h
  · rw [c, Bool.false_and] at h
    exact Rt.now h
theorem sp__is_split {n : W} {ws : List W} {μ : Mu} {P : Po} {X : Xo} (hp : dps ws = true) (h : P (.bl (fSplit ws)) μ) : f__is_split [n, .tup ws] μ P X := by
  rw [f__is_split_eq]; unfold f__is_split_B fDef
  refine ⟨rfl, ?_⟩
  have hs := dps_pl hp
  unfold fSplit at h
  walk_at "q"
  refine sp_names_shard (n := 5) (by decide) hp ?_
  cases c : (decide (ws.length = 5) && shardB ws) with
  | true =>
    rw [c, Bool.true_and] at h
    obtain ⟨k, a, b, e, m, rfl⟩ := len_five (of_decide_eq_true (Bool.and_eq_true_iff.mp c).1)
    have r := (Bool.and_eq_true_iff.mp (Bool.and_eq_true_iff.mp c).2).1
    obtain ⟨x, rfl⟩ := bound_str (Bool.and_eq_true_iff.mp r).1
    have hb : b = .non ∨ ∃ y, b = .str y := by
      have := (Bool.and_eq_true_iff.mp r).2
      cases b with
      | non => exact .inl rfl
      | str y => exact .inr ⟨y, rfl⟩
      | _ => cases this
    walk_at "q"
    refine sp_key (hs m (by simp)) ?_
    cases c2 : keyW m with
    | false =>
      simp only at h
      rw [c2, Bool.false_and] at h
      exact Rt.now h
    | true =>
      simp only at h
      rw [c2, Bool.true_and] at h
      cases m with
      | str z =>
        rcases hb with rfl | ⟨y, rfl⟩
        · have h : P (.bl (sLt x z && true)) μ := h
          walk_at "q"
          refine q_if (fun c3 => ?_) fun c3 => ?_
          · walk_at "q"
            refine sp_below (y := none) ?_
            exact Rt.now (pb h (by rw [c3]; rfl))
          · exact Rt.now (pb h (by rw [c3]; rfl))
        · have h : P (.bl (sLt x z && sLt z y)) μ := h
          walk_at "q"
          refine q_if (fun c3 => ?_) fun c3 => ?_
          · walk_at "q"
            refine sp_below (y := some y) ?_
            exact Rt.now (pb h (by rw [c3]; rfl))
          · exact Rt.now (pb h (by rw [c3]; rfl))
      | _ => cases c2
  | false =>
    rw [c, Bool.false_and] at h
    walk_at "q"
    exact Rt.now h
theorem sp__is_join {n : W} {ws : List W} {μ : Mu} {P : Po} {X : Xo} (hp : dps ws = true) (h : P (.bl (fJoin ws)) μ) : f__is_join [n, .tup ws] μ P X := by
  rw [f__is_join_eq]; unfold f__is_join_B fDef
  refine ⟨rfl, ?_⟩
  have hs := dps_pl hp
  by_cases c : ws.length = 6
  · obtain ⟨k, a, m, e, b, o, rfl⟩ := len_six c
    have h : P (.bl ((rangeW a m && rangeW m b) && (numW e && numW o))) μ := h
    walk_at "q"
    refine sp_is_range (hs a (by simp)) (hs m (by simp)) ?_
    cases c1 : rangeW a m with
    | false =>
      rw [c1, Bool.false_and, Bool.false_and] at h
      walk_at "q"
      exact Rt.now h
    | true =>
      rw [c1, Bool.true_and] at h
      walk_at "q"
      refine sp_is_range (hs m (by simp)) (hs b (by simp)) ?_
      cases c2 : rangeW m b with
      | false =>
        rw [c2, Bool.false_and] at h
        walk_at "q"
        exact Rt.now h
      | true =>
        rw [c2, Bool.true_and] at h
        walk_at "q"
        refine sp_is_number (hs e (by simp)) ?_
        refine q_if (fun c3 => ?_) fun c3 => ?_
        · walk_at "q"
          refine sp_is_number (hs o (by simp)) ?_
          exact Rt.now (pb h (by simp [c3]))
        · exact Rt.now (pb h (by simp [c3]))
  · have e : fJoin ws = false := by
      unfold fJoin
      split
      · exact absurd rfl c
      · rfl
    rw [e] at h
    have c3 : (!decide ((ws.length : Int) = 6)) = true := by rw [decide_eq_false (by omega)]; rfl
    walk_at "q"
    exact Rt.now h
theorem sp__is_have {n : W} {ws : List W} {μ : Mu} {P : Po} {X : Xo} (hp : dps ws = true) (h : P (.bl (fHave ws)) μ) : f__is_have [n, .tup ws] μ P X := by
  rw [f__is_have_eq]; unfold f__is_have_B fDef
  refine ⟨rfl, ?_⟩
  have hs := dps_pl hp
  unfold fHave at h
  walk_at "q"
  refine sp_names_shard (n := 6) (by decide) hp ?_
  refine q_if (fun c => ?_) fun c => ?_
  · rw [c, Bool.true_and] at h
    obtain ⟨a, b, d, e, s, m, rfl⟩ := len_six (of_decide_eq_true (Bool.and_eq_true_iff.mp c).1)
    simp only at h
    walk_at "q"
    refine sp_int (hs s (by simp)) ?_
    refine q_if (fun c2 => ?_) fun c2 => ?_
    · walk_at "q"
      refine sp_bound (hs m (by simp)) ?_
      exact Rt.now (pb h (by simp [c2]))
    · exact Rt.now (pb h (by simp [c2]))
  · rw [c, Bool.false_and] at h
    exact Rt.now h
theorem sp__is_content {n : W} {ws : List W} {μ : Mu} {P : Po} {X : Xo} (hp : dps ws = true) (h : P (.bl (fContent ws)) μ) : f__is_content [n, .tup ws] μ P X := by
  rw [f__is_content_eq]; unfold f__is_content_B fDef
  refine ⟨rfl, ?_⟩
  unfold fContent at h
  walk_at "q"
  refine sp_names_shard (n := 6) (by decide) hp ?_
  cases c : (decide (ws.length = 6) && shardB ws) with
  | true =>
    rw [c, Bool.true_and] at h
    obtain ⟨k, a, b, e, p, r, rfl⟩ := len_six (of_decide_eq_true (Bool.and_eq_true_iff.mp c).1)
    have hr := (Bool.and_eq_true_iff.mp (Bool.and_eq_true_iff.mp c).2).1
    have dm := dps_mem hp
    simp only at h
    walk_at "q"
    refine sp_is_pairs hr (dm p (by simp)) ?_
    refine q_if (fun c2 => ?_) fun c2 => ?_
    · walk_at "q"
      refine sp_is_rows (dm r (by simp)) ?_
      exact Rt.now (pb h (by simp [c2]))
    · exact Rt.now (pb h (by simp [c2]))
  | false =>
    rw [c, Bool.false_and] at h
    walk_at "q"
    exact Rt.now h
theorem sp__is_receipt {n : W} {ws : List W} {μ : Mu} {P : Po} {X : Xo} (hp : dps ws = true) (h : P (.bl (decide (ws.length = 4) && shardB ws)) μ) : f__is_receipt [n, .tup ws] μ P X := by
  rw [f__is_receipt_eq]; unfold f__is_receipt_B fDef
  refine ⟨rfl, ?_⟩
  walk_at "q"
  refine sp_names_shard (n := 4) (by decide) hp ?_
  exact Rt.now h
end Q
namespace Q
open PySem L2
local macro_rules | `(tactic| walk_at "mu") => `(tactic| (repeat (first | exact mset_same | assumption | (rw [mset_ne]; rotate_left; (first | assumption | exact Ne.symm (by assumption))))))
local macro_rules | `(tactic| walk_at "lk") => `(tactic| (repeat (first | exact lk_hit | exact lk_nil | refine lk_skip (by decide +kernel) ?_)))
local macro_rules | `(tactic| walk_at "pf") => `(tactic| (repeat (first | rw [pf_nil] | rw [pf_hit] | (rw [pf_skip]; rotate_left; (focus (decide +kernel; done))))))
local macro_rules | `(tactic| walk_at "q") => `(tactic| ((with_reducible conv => whnf); repeat (first
  | (with_reducible refine q_t (by assumption) ?_; with_reducible conv => whnf)
  | (with_reducible refine q_f (by assumption) ?_; with_reducible conv => whnf)
  | (with_reducible refine q_t (by with_reducible rfl) ?_; with_reducible conv => whnf)
  | (with_reducible refine q_f (by with_reducible rfl) ?_; with_reducible conv => whnf)
  | (with_reducible refine q_t (by decide) ?_; with_reducible conv => whnf)
  | (with_reducible refine q_f (by decide) ?_; with_reducible conv => whnf)
  | (with_reducible refine q_t (decide_eq_true (by omega)) ?_; with_reducible conv => whnf)
  | (with_reducible refine q_f (decide_eq_false (by omega)) ?_; with_reducible conv => whnf)
  | (with_reducible refine q_f (q_nn (by omega)) ?_; with_reducible conv => whnf)
  | (with_reducible refine q_t (q_nt (by omega)) ?_; with_reducible conv => whnf)
  | (with_reducible refine q_len (by with_unfolding_all rfl) ?_; with_reducible conv => whnf)
  | (with_reducible refine q_leq (by with_unfolding_all rfl) ?_; with_reducible conv => whnf)
  | (with_reducible refine q_and (by first | assumption | exact True.intro | omega | (simp only [List.length_map, List.length_append, List.length_cons, List.length_nil]; omega) | decide) ?_; with_reducible conv => whnf)
  | (with_reducible refine q_le (by with_unfolding_all rfl) ?_; with_reducible conv => whnf)
  | (with_reducible refine q_and tyL_lst ?_; with_reducible conv => whnf)
  | (with_reducible refine q_and tyL_rol ?_; with_reducible conv => whnf)
  | (with_reducible refine q_and (tyL_ref (by walk_at "mu")) ?_; with_reducible conv => whnf)
  | (with_reducible refine q_and (tyD_ref (by walk_at "mu")) ?_; with_reducible conv => whnf)
  | (with_reducible refine q_and (rdD_ref (by walk_at "mu")) ?_; with_reducible conv => whnf)
  | (rw [pick_c0]; with_reducible conv => whnf)
  | (rw [pick_c1]; with_reducible conv => whnf)
  | (rw [pick_c2]; with_reducible conv => whnf)
  | (rw [pick_c3]; with_reducible conv => whnf)
  | (rw [pick_c4]; with_reducible conv => whnf)
  | (rw [pick_c5]; with_reducible conv => whnf)
  | (rw [mset_same]; with_reducible conv => whnf)
  | (rw [mset_ne (by assumption)]; with_reducible conv => whnf)
  | (rw [mset_ne]; rotate_left; (first | assumption | exact Ne.symm (by assumption)); with_reducible conv => whnf)
  | (rw [rdL_ref]; rotate_left; (focus (walk_at "mu"; done)); with_reducible conv => whnf)
  | (rw [rdL_refD]; rotate_left; (focus (walk_at "mu"; done)); with_reducible conv => whnf)
  | (rw [rdD_refD]; rotate_left; (focus (walk_at "mu"; done)); with_reducible conv => whnf)
  | (rw [rdM_ref]; rotate_left; (focus (walk_at "mu"; done)); with_reducible conv => whnf)
  | (rw [rdL_refK]; rotate_left; (focus (walk_at "mu"; done)); with_reducible conv => whnf)
  | (rw [rdD_refK]; rotate_left; (focus (walk_at "mu"; done)); with_reducible conv => whnf)
  | (rw [tyW_refL]; rotate_left; (focus (walk_at "mu"; done)); with_reducible conv => whnf)
  | (rw [tyW_refD]; rotate_left; (focus (walk_at "mu"; done)); with_reducible conv => whnf)
  | (rw [drf_ref]; rotate_left; (focus (walk_at "mu"; done)); with_reducible conv => whnf)
  | ((conv => (arg 2; tactic' => (walk_at "mu"; done))); with_reducible conv => whnf)
  | (with_reducible refine q_and (Eq.refl _) ?_; with_reducible conv => whnf)
  | (with_reducible refine q_and (MulO.r (by decide)) ?_; with_reducible conv => whnf)
  | (with_reducible refine q_and (MulO.l (by decide)) ?_; with_reducible conv => whnf)
  | (with_reducible refine q_and (MulO.r (by omega)) ?_; with_reducible conv => whnf)
  | (with_reducible refine q_and (MulO.l (by omega)) ?_; with_reducible conv => whnf)
  | (with_reducible refine q_pow (by decide) ?_; with_reducible conv => whnf)
  | (with_reducible refine q_nisT (by first | assumption | with_reducible rfl) ?_; with_reducible conv => whnf)
  | (with_reducible refine q_nisF (by first | assumption | with_reducible rfl) ?_; with_reducible conv => whnf)
  | (with_reducible refine q_eqI ?_; with_reducible conv => whnf)
  | (with_reducible refine q_eqS ?_; with_reducible conv => whnf)
  | (with_reducible refine q_eqB ?_; with_reducible conv => whnf)
  | (with_reducible refine q_neI ?_; with_reducible conv => whnf)
  | (with_reducible refine q_neS ?_; with_reducible conv => whnf)
  | (with_reducible refine q_neB ?_; with_reducible conv => whnf)
  | (with_reducible refine q_memc ?_; with_reducible conv => whnf)
  | (with_reducible refine q_lkn (by walk_at "lk") ?_; with_reducible conv => whnf)
  | (with_reducible refine q_tix (by walk_at "lk"; done) ?_; with_reducible conv => whnf)
  | (with_reducible refine q_tin ?_; with_reducible conv => whnf)
  | (rw [pf_hit]; with_reducible conv => whnf)
  | (rw [pf_skip]; rotate_left; (focus (decide +kernel; done)); with_reducible conv => whnf)
  | (rw [lk_hit]; with_reducible conv => whnf)
  | (rw [lk_skip1]; rotate_left; (focus (decide +kernel; done)); with_reducible conv => whnf))))
/-! letters: is_letter, check_letter -/
def letK (n : Int) (k : Str) (ws : List W) : Bool := if k = "ask" then fAsk ws else if k = "where" then len2 ws boundW else if k = "answer" then fTold ws else if k = "elsewhere" then len2 ws numW
    else if k = "there" ∨ k = "move" then fNames n ws else if k = "split" then fSplit ws else if k = "join" then fJoin ws else if k = "have" then fHave ws
    else if k = "content" then fContent ws else if k = "receipt" then decide (ws.length = 4) && shardB ws else false
def letB (n : Int) : List W → Bool
  | .str k :: r => letK n k (.str k :: r)
  | _ => false
def letW (n : Int) : W → Bool
  | .tup ws => letB n ws
  | _ => false
abbrev kinds11 : List Str := ["ask", "where", "answer", "elsewhere", "there", "move", "split", "join", "have", "content", "receipt"]
theorem letB_no {n : Int} {k : Str} {r : List W} (h : k ∉ kinds11) : letB n (.str k :: r) = false := by
  simp only [kinds11, List.mem_cons, List.not_mem_nil, or_false, not_or] at h
  obtain ⟨h1, h2, h3, h4, h5, h6, h7, h8, h9, h10, h11⟩ := h
  show letK _ _ _ = _
  unfold letK
  rw [if_neg h1, if_neg h2, if_neg h3, if_neg h4, if_neg (fun z => z.elim h5 h6), if_neg h7, if_neg h8, if_neg h9, if_neg h10, if_neg h11]
theorem sp_letK {n : Int} {w : W} {μ : Mu} {P : Po} {X : Xo} (hp : dp w = true) (hk : kindW w = "") (h : P (.bl false) μ) : f_is_letter [.int n, w] μ P X := by
  rw [f_is_letter_eq]; unfold f_is_letter_B fDef
  refine ⟨rfl, ?_⟩
  walk_at "q"
  refine sp_kind hp ?_
  rw [hk]
  walk_at "q"
  exact Rt.now h
theorem let_ask {n : Int} {r : List W} : letB n (.str "ask" :: r) = fAsk (.str "ask" :: r) := rfl
theorem let_where {n : Int} {r : List W} : letB n (.str "where" :: r) = len2 (.str "where" :: r) boundW := by
  show letK _ _ _ = _
  unfold letK
  rw [if_neg (by decide +kernel), if_pos rfl]
theorem let_answer {n : Int} {r : List W} : letB n (.str "answer" :: r) = fTold (.str "answer" :: r) := by
  show letK _ _ _ = _
  unfold letK
  rw [if_neg (by decide +kernel), if_neg (by decide +kernel), if_pos rfl]
theorem let_elsewhere {n : Int} {r : List W} : letB n (.str "elsewhere" :: r) = len2 (.str "elsewhere" :: r) numW := by
  show letK _ _ _ = _
  unfold letK
  rw [if_neg (by decide +kernel), if_neg (by decide +kernel), if_neg (by decide +kernel), if_pos rfl]
theorem let_there {n : Int} {r : List W} : letB n (.str "there" :: r) = fNames n (.str "there" :: r) := by
  show letK _ _ _ = _
  unfold letK
  rw [if_neg (by decide +kernel), if_neg (by decide +kernel), if_neg (by decide +kernel), if_neg (by decide +kernel), if_pos (.inl rfl)]
theorem let_move {n : Int} {r : List W} : letB n (.str "move" :: r) = fNames n (.str "move" :: r) := by
  show letK _ _ _ = _
  unfold letK
  rw [if_neg (by decide +kernel), if_neg (by decide +kernel), if_neg (by decide +kernel), if_neg (by decide +kernel), if_pos (.inr rfl)]
theorem let_split {n : Int} {r : List W} : letB n (.str "split" :: r) = fSplit (.str "split" :: r) := by
  show letK _ _ _ = _
  unfold letK
  rw [if_neg (by decide +kernel), if_neg (by decide +kernel), if_neg (by decide +kernel), if_neg (by decide +kernel), if_neg (by decide +kernel), if_pos rfl]
theorem let_join {n : Int} {r : List W} : letB n (.str "join" :: r) = fJoin (.str "join" :: r) := by
  show letK _ _ _ = _
  unfold letK
  rw [if_neg (by decide +kernel), if_neg (by decide +kernel), if_neg (by decide +kernel), if_neg (by decide +kernel), if_neg (by decide +kernel), if_neg (by decide +kernel), if_pos rfl]
theorem let_have {n : Int} {r : List W} : letB n (.str "have" :: r) = fHave (.str "have" :: r) := by
  show letK _ _ _ = _
  unfold letK
  rw [if_neg (by decide +kernel), if_neg (by decide +kernel), if_neg (by decide +kernel), if_neg (by decide +kernel), if_neg (by decide +kernel), if_neg (by decide +kernel), if_neg (by decide +kernel), if_pos rfl]
theorem let_content {n : Int} {r : List W} : letB n (.str "content" :: r) = fContent (.str "content" :: r) := by
  show letK _ _ _ = _
  unfold letK
  rw [if_neg (by decide +kernel), if_neg (by decide +kernel), if_neg (by decide +kernel), if_neg (by decide +kernel), if_neg (by decide +kernel), if_neg (by decide +kernel), if_neg (by decide +kernel), if_neg (by decide +kernel), if_pos rfl]
theorem let_receipt {n : Int} {r : List W} : letB n (.str "receipt" :: r) = (decide ((W.str "receipt" :: r).length = 4) && shardB (.str "receipt" :: r)) := by
  show letK _ _ _ = _
  unfold letK
  rw [if_neg (by decide +kernel), if_neg (by decide +kernel), if_neg (by decide +kernel), if_neg (by decide +kernel), if_neg (by decide +kernel), if_neg (by decide +kernel), if_neg (by decide +kernel), if_neg (by decide +kernel), if_neg (by decide +kernel), if_pos rfl]
theorem sp_letS {n : Int} {k : Str} {r : List W} {μ : Mu} {P : Po} {X : Xo} (hp : dps (.str k :: r) = true) (h : P (.bl (letB n (.str k :: r))) μ) : f_is_letter [.int n, .tup (.str k :: r)] μ P X := by
  rw [f_is_letter_eq]; unfold f_is_letter_B fDef
  refine ⟨rfl, ?_⟩
  walk_at "q"
  refine sp_kind_tup ?_
  walk_at "q"
  by_cases hm : k ∈ kinds11
  · have hm2 := hm
    simp only [kinds11, List.mem_cons, List.not_mem_nil, or_false] at hm2
    rcases hm2 with rfl | rfl | rfl | rfl | rfl | rfl | rfl | rfl | rfl | rfl | rfl
    · rw [let_ask] at h
      walk_at "q"
      refine q_cl (f := f__is_ask) (by walk_at "lk") ?_
      walk_at "q"
      refine sp__is_ask hp ?_
      exact Rt.now h
    · rw [let_where] at h
      walk_at "q"
      refine q_cl (f := f__is_where) (by walk_at "lk") ?_
      walk_at "q"
      refine sp__is_where hp ?_
      exact Rt.now h
    · rw [let_answer] at h
      walk_at "q"
      refine q_cl (f := f__is_told) (by walk_at "lk") ?_
      walk_at "q"
      refine sp__is_told hp ?_
      exact Rt.now h
    · rw [let_elsewhere] at h
      walk_at "q"
      refine q_cl (f := f__is_elsewhere) (by walk_at "lk") ?_
      walk_at "q"
      refine sp__is_elsewhere hp ?_
      exact Rt.now h
    · rw [let_there] at h
      walk_at "q"
      refine q_cl (f := f__names_server) (by walk_at "lk") ?_
      walk_at "q"
      refine sp__names_server hp ?_
      exact Rt.now h
    · rw [let_move] at h
      walk_at "q"
      refine q_cl (f := f__names_server) (by walk_at "lk") ?_
      walk_at "q"
      refine sp__names_server hp ?_
      exact Rt.now h
    · rw [let_split] at h
      walk_at "q"
      refine q_cl (f := f__is_split) (by walk_at "lk") ?_
      walk_at "q"
      refine sp__is_split hp ?_
      exact Rt.now h
    · rw [let_join] at h
      walk_at "q"
      refine q_cl (f := f__is_join) (by walk_at "lk") ?_
      walk_at "q"
      refine sp__is_join hp ?_
      exact Rt.now h
    · rw [let_have] at h
      walk_at "q"
      refine q_cl (f := f__is_have) (by walk_at "lk") ?_
      walk_at "q"
      refine sp__is_have hp ?_
      exact Rt.now h
    · rw [let_content] at h
      walk_at "q"
      refine q_cl (f := f__is_content) (by walk_at "lk") ?_
      walk_at "q"
      refine sp__is_content hp ?_
      exact Rt.now h
    · rw [let_receipt] at h
      walk_at "q"
      refine q_cl (f := f__is_receipt) (by walk_at "lk") ?_
      walk_at "q"
      refine sp__is_receipt hp ?_
      exact Rt.now h
  · rw [letB_no hm] at h
    refine q_t (by
      rw [show decide (k ∈ ([("ask", W.fn "_is_ask"), ("where", .fn "_is_where"), ("answer", .fn "_is_told"), ("elsewhere", .fn "_is_elsewhere"), ("there", .fn "_names_server"), ("move", .fn "_names_server"), ("split", .fn "_is_split"), ("join", .fn "_is_join"), ("have", .fn "_is_have"), ("content", .fn "_is_content"), ("receipt", .fn "_is_receipt")] : List (Str × W)).map (·.1)) = false from decide_eq_false hm]
      rfl) ?_
    walk_at "q"
    exact Rt.now h
theorem sp_letter {n : Int} {w : W} {μ : Mu} {P : Po} {X : Xo} (hp : dp w = true) (h : P (.bl (letW n w)) μ) : f_is_letter [.int n, w] μ P X := by
  cases w with
  | tup ws =>
    have hs := dp_tup hp
    cases ws with
    | nil => exact sp_letK hp rfl h
    | cons a r =>
      cases a with
      | str k => exact sp_letS hs h
      | non => exact sp_letK hp rfl h
      | bl b => exact sp_letK hp rfl h
      | int i => exact sp_letK hp rfl h
      | tup us => exact sp_letK hp rfl h
      | lst us => exact sp_letK hp rfl h
      | _ => have := (dps_cons hs).1; unfold dp at this; cases this
  | non => exact sp_letK hp rfl h
  | bl b => exact sp_letK hp rfl h
  | int i => exact sp_letK hp rfl h
  | str z => exact sp_letK hp rfl h
  | lst us => exact sp_letK hp rfl h
  | _ => unfold dp at hp; cases hp
/-- the parties -/
inductive Rl where
  | cl | sv | dr
deriving DecidableEq
def Rl.nm : Rl → Str
  | .cl => "client"
  | .sv => "server"
  | .dr => "directory"
def partyB (n : Int) (r : Rl) (w : W) : Bool := match r with
  | .cl => intB w (-100) (-1)
  | .sv => intB w 0 (n - 1)
  | .dr => intB w 1000 1000
theorem sp_party {n : Int} {r : Rl} {w : W} {μ : Mu} {P : Po} {X : Xo} (hp : pl w = true) (h : P (.bl (partyB n r w)) μ) : f__is_party [.int n, .str r.nm, w] μ P X := by
  rw [f__is_party_eq]; unfold f__is_party_B fDef
  refine ⟨rfl, ?_⟩
  cases r with
  | cl =>
    have e : Rl.cl.nm = "client" := rfl
    rw [e]
    walk_at "q"
    refine sp_cli hp ?_
    exact Rt.now h
  | sv =>
    have e : Rl.sv.nm = "server" := rfl
    rw [e]
    walk_at "q"
    refine sp_is_server hp ?_
    exact Rt.now h
  | dr =>
    have e : Rl.dr.nm = "directory" := rfl
    rw [e]
    walk_at "q"
    refine sp_int hp ?_
    exact Rt.now h
def wayOf (k : Str) : Rl × Rl := if k = "ask" then (.cl, .sv) else if k = "where" then (.cl, .dr) else if k = "answer" ∨ k = "elsewhere" then (.sv, .cl) else if k = "there" then (.dr, .cl)
  else if k = "move" ∨ k = "split" ∨ k = "join" then (.dr, .sv) else if k = "have" then (.sv, .dr) else (.sv, .sv)
def mayB (n : Int) (s t : W) (l : W) : Bool := letW n l && (partyB n (wayOf (kindW l)).1 s && partyB n (wayOf (kindW l)).2 t)
theorem kind_let {n : Int} {w : W} (h : letW n w = true) : ∃ k r, w = .tup (.str k :: r) ∧ k ∈ kinds11 := by
  cases w with
  | tup ws =>
    cases ws with
    | nil => cases h
    | cons a r =>
      cases a with
      | str k =>
        refine ⟨k, r, rfl, ?_⟩
        by_cases c : k ∈ kinds11
        · exact c
        · rw [show letW n (.tup (.str k :: r)) = letB n (.str k :: r) from rfl, letB_no c] at h
          cases h
      | _ => cases h
  | _ => cases h
theorem sp_check {n : Int} {s t l : W} {μ : Mu} {P : Po} {X : Xo} (hs : pl s = true) (ht : pl t = true) (hl : dp l = true) (h1 : mayB n s t l = true → P l μ) (h2 : mayB n s t l = false → X "BadLetter" [] μ) : f_check_letter [.int n, s, t, l] μ P X := by
  rw [f_check_letter_eq]; unfold f_check_letter_B fDef
  refine ⟨rfl, ?_⟩
  walk_at "q"
  refine sp_letter hl ?_
  unfold mayB at h1 h2
  cases c : letW n l with
  | false =>
    rw [c, Bool.false_and] at h1 h2
    walk_at "q"
    exact ⟨μ, Sub.refl μ, h2 rfl⟩
  | true =>
    rw [c, Bool.true_and] at h1 h2
    obtain ⟨k, r, rfl, hm⟩ := kind_let c
    have ek : kindW (.tup (.str k :: r)) = k := rfl
    rw [ek] at h1 h2
    have tail : ∀ (a b : Rl) (N : En), wayOf k = (a, b) → (N.rt = fun w μ1 => Rt P w μ1) → (∀ ρ, N.ex ρ = fun c fs μ' => ∃ μ'', Sub μ'' μ' ∧ X c fs μ'') → (sSeq (sIf (cOr (cNot (cV (eCall f__is_party (aCons (eV 0) (aCons (eV 4) (aCons (eV 1) (aNil))))))) (cNot (cV (eCall f__is_party (aCons (eV 0) (aCons (eV 5) (aCons (eV 2) (aNil)))))))) (sRaise "BadLetter") (sNx))
  (sRt (eV 3))) [some (.int n), some s, some t, some (.tup (.str k :: r)), some (.str a.nm), some (.str b.nm)] μ N := fun a b N e hN hX => by
      rw [e] at h1 h2
      simp only at h1 h2
      walk_at "q"
      refine sp_party hs ?_
      cases c1 : partyB n a s with
      | false =>
        rw [c1, Bool.false_and] at h2
        walk_at "q"
        show N.ex _ _ _ _
        rw [hX]
        exact ⟨μ, Sub.refl μ, h2 rfl⟩
      | true =>
        rw [c1, Bool.true_and] at h1 h2
        walk_at "q"
        refine sp_party ht ?_
        cases c2 : partyB n b t with
        | false =>
          rw [c2] at h2
          walk_at "q"
          show N.ex _ _ _ _
          rw [hX]
          exact ⟨μ, Sub.refl μ, h2 rfl⟩
        | true =>
          rw [c2] at h1
          walk_at "q"
          show N.rt _ _
          rw [hN]
          exact Rt.now (h1 rfl)
    walk_at "q"
    simp only [kinds11, List.mem_cons, List.not_mem_nil, or_false] at hm
    rcases hm with rfl | rfl | rfl | rfl | rfl | rfl | rfl | rfl | rfl | rfl | rfl
    · refine q_tix (by walk_at "lk"; done) ?_
      with_reducible conv => whnf
      refine ⟨rfl, ?_⟩
      exact tail .cl .sv _ (by decide +kernel) rfl fun _ => rfl
    · refine q_tix (by walk_at "lk"; done) ?_
      with_reducible conv => whnf
      refine ⟨rfl, ?_⟩
      exact tail .cl .dr _ (by decide +kernel) rfl fun _ => rfl
    · refine q_tix (by walk_at "lk"; done) ?_
      with_reducible conv => whnf
      refine ⟨rfl, ?_⟩
      exact tail .sv .cl _ (by decide +kernel) rfl fun _ => rfl
    · refine q_tix (by walk_at "lk"; done) ?_
      with_reducible conv => whnf
      refine ⟨rfl, ?_⟩
      exact tail .sv .cl _ (by decide +kernel) rfl fun _ => rfl
    · refine q_tix (by walk_at "lk"; done) ?_
      with_reducible conv => whnf
      refine ⟨rfl, ?_⟩
      exact tail .dr .cl _ (by decide +kernel) rfl fun _ => rfl
    · refine q_tix (by walk_at "lk"; done) ?_
      with_reducible conv => whnf
      refine ⟨rfl, ?_⟩
      exact tail .dr .sv _ (by decide +kernel) rfl fun _ => rfl
    · refine q_tix (by walk_at "lk"; done) ?_
      with_reducible conv => whnf
      refine ⟨rfl, ?_⟩
      exact tail .dr .sv _ (by decide +kernel) rfl fun _ => rfl
    · refine q_tix (by walk_at "lk"; done) ?_
      with_reducible conv => whnf
      refine ⟨rfl, ?_⟩
      exact tail .dr .sv _ (by decide +kernel) rfl fun _ => rfl
    · refine q_tix (by walk_at "lk"; done) ?_
      with_reducible conv => whnf
      refine ⟨rfl, ?_⟩
      exact tail .sv .dr _ (by decide +kernel) rfl fun _ => rfl
    · refine q_tix (by walk_at "lk"; done) ?_
      with_reducible conv => whnf
      refine ⟨rfl, ?_⟩
      exact tail .sv .sv _ (by decide +kernel) rfl fun _ => rfl
    · refine q_tix (by walk_at "lk"; done) ?_
      with_reducible conv => whnf
      refine ⟨rfl, ?_⟩
      exact tail .sv .sv _ (by decide +kernel) rfl fun _ => rfl
end Q
namespace Q
open PySem L2
/-! tables as lists of pairs, and as they lie in the store -/
abbrev Tb (κ α : Type) : Type := List (κ × α)
section
variable {κ α : Type} [DecidableEq κ]
def getT (t : Tb κ α) (k : κ) : Option α := (t.find? fun x => decide (x.1 = k)).map (·.2)
/-! as they lie in the store -/
variable {f : κ → Key} {g : κ → α → W}
end
/-! sorted -/
end Q
namespace Q
open PySem L2
local macro_rules | `(tactic| walk_at "mu") => `(tactic| (repeat (first | exact mset_same | assumption | (rw [mset_ne]; rotate_left; (first | assumption | exact Ne.symm (by assumption))))))
local macro_rules | `(tactic| walk_at "lk") => `(tactic| (repeat (first | exact lk_hit | exact lk_nil | refine lk_skip (by decide +kernel) ?_)))
local macro_rules | `(tactic| walk_at "pf") => `(tactic| (repeat (first | rw [pf_nil] | rw [pf_hit] | (rw [pf_skip]; rotate_left; (focus (decide +kernel; done))))))
local macro_rules | `(tactic| walk_at "q") => `(tactic| ((with_reducible conv => whnf); repeat (first
  | (with_reducible refine q_t (by assumption) ?_; with_reducible conv => whnf)
  | (with_reducible refine q_f (by assumption) ?_; with_reducible conv => whnf)
  | (with_reducible refine q_t (by with_reducible rfl) ?_; with_reducible conv => whnf)
  | (with_reducible refine q_f (by with_reducible rfl) ?_; with_reducible conv => whnf)
  | (with_reducible refine q_t (by decide) ?_; with_reducible conv => whnf)
  | (with_reducible refine q_f (by decide) ?_; with_reducible conv => whnf)
  | (with_reducible refine q_t (decide_eq_true (by omega)) ?_; with_reducible conv => whnf)
  | (with_reducible refine q_f (decide_eq_false (by omega)) ?_; with_reducible conv => whnf)
  | (with_reducible refine q_f (q_nn (by omega)) ?_; with_reducible conv => whnf)
  | (with_reducible refine q_t (q_nt (by omega)) ?_; with_reducible conv => whnf)
  | (with_reducible refine q_len (by with_unfolding_all rfl) ?_; with_reducible conv => whnf)
  | (with_reducible refine q_leq (by with_unfolding_all rfl) ?_; with_reducible conv => whnf)
  | (with_reducible refine q_and (by first | assumption | exact True.intro | omega | (simp only [List.length_map, List.length_append, List.length_cons, List.length_nil]; omega) | decide) ?_; with_reducible conv => whnf)
  | (with_reducible refine q_le (by with_unfolding_all rfl) ?_; with_reducible conv => whnf)
  | (with_reducible refine q_and tyL_lst ?_; with_reducible conv => whnf)
  | (with_reducible refine q_and tyL_rol ?_; with_reducible conv => whnf)
  | (with_reducible refine q_and (tyL_ref (by walk_at "mu")) ?_; with_reducible conv => whnf)
  | (with_reducible refine q_and (tyD_ref (by walk_at "mu")) ?_; with_reducible conv => whnf)
  | (with_reducible refine q_and (rdD_ref (by walk_at "mu")) ?_; with_reducible conv => whnf)
  | (rw [pick_c0]; with_reducible conv => whnf)
  | (rw [pick_c1]; with_reducible conv => whnf)
  | (rw [pick_c2]; with_reducible conv => whnf)
  | (rw [pick_c3]; with_reducible conv => whnf)
  | (rw [pick_c4]; with_reducible conv => whnf)
  | (rw [pick_c5]; with_reducible conv => whnf)
  | (rw [mset_same]; with_reducible conv => whnf)
  | (rw [mset_ne (by assumption)]; with_reducible conv => whnf)
  | (rw [mset_ne]; rotate_left; (first | assumption | exact Ne.symm (by assumption)); with_reducible conv => whnf)
  | (rw [rdL_ref]; rotate_left; (focus (walk_at "mu"; done)); with_reducible conv => whnf)
  | (rw [rdL_refD]; rotate_left; (focus (walk_at "mu"; done)); with_reducible conv => whnf)
  | (rw [rdD_refD]; rotate_left; (focus (walk_at "mu"; done)); with_reducible conv => whnf)
  | (rw [rdM_ref]; rotate_left; (focus (walk_at "mu"; done)); with_reducible conv => whnf)
  | (rw [rdL_refK]; rotate_left; (focus (walk_at "mu"; done)); with_reducible conv => whnf)
  | (rw [rdD_refK]; rotate_left; (focus (walk_at "mu"; done)); with_reducible conv => whnf)
  | (rw [tyW_refL]; rotate_left; (focus (walk_at "mu"; done)); with_reducible conv => whnf)
  | (rw [tyW_refD]; rotate_left; (focus (walk_at "mu"; done)); with_reducible conv => whnf)
  | (rw [drf_ref]; rotate_left; (focus (walk_at "mu"; done)); with_reducible conv => whnf)
  | ((conv => (arg 2; tactic' => (walk_at "mu"; done))); with_reducible conv => whnf)
  | (with_reducible refine q_and (Eq.refl _) ?_; with_reducible conv => whnf)
  | (with_reducible refine q_and (MulO.r (by decide)) ?_; with_reducible conv => whnf)
  | (with_reducible refine q_and (MulO.l (by decide)) ?_; with_reducible conv => whnf)
  | (with_reducible refine q_and (MulO.r (by omega)) ?_; with_reducible conv => whnf)
  | (with_reducible refine q_and (MulO.l (by omega)) ?_; with_reducible conv => whnf)
  | (with_reducible refine q_pow (by decide) ?_; with_reducible conv => whnf)
  | (with_reducible refine q_nisT (by first | assumption | with_reducible rfl) ?_; with_reducible conv => whnf)
  | (with_reducible refine q_nisF (by first | assumption | with_reducible rfl) ?_; with_reducible conv => whnf)
  | (with_reducible refine q_eqI ?_; with_reducible conv => whnf)
  | (with_reducible refine q_eqS ?_; with_reducible conv => whnf)
  | (with_reducible refine q_eqB ?_; with_reducible conv => whnf)
  | (with_reducible refine q_neI ?_; with_reducible conv => whnf)
  | (with_reducible refine q_neS ?_; with_reducible conv => whnf)
  | (with_reducible refine q_neB ?_; with_reducible conv => whnf)
  | (with_reducible refine q_memc ?_; with_reducible conv => whnf)
  | (with_reducible refine q_lkn (by walk_at "lk") ?_; with_reducible conv => whnf)
  | (with_reducible refine q_tix (by walk_at "lk"; done) ?_; with_reducible conv => whnf)
  | (with_reducible refine q_tin ?_; with_reducible conv => whnf)
  | (rw [pf_hit]; with_reducible conv => whnf)
  | (rw [pf_skip]; rotate_left; (focus (decide +kernel; done)); with_reducible conv => whnf)
  | (rw [lk_hit]; with_reducible conv => whnf)
  | (rw [lk_skip1]; rotate_left; (focus (decide +kernel; done)); with_reducible conv => whnf))))
/-! sessions: at e, their table at l -/
abbrev Ss : Type := Tb Int (Int × W)
section
variable {e l : Addr} {ss : Ss} {μ : Mu} {P : Po} {X : Xo}
/-- the later one -/
def later (a b : Option (Int × W)) : Option (Int × W) := match a, b with
  | none, b => b
  | a, none => a
  | some x, some y => if x.1 < y.1 then some y else some x
end
end Q
namespace Q
open PySem L2
local macro_rules | `(tactic| walk_at "mu") => `(tactic| (repeat (first | exact mset_same | assumption | (rw [mset_ne]; rotate_left; (first | assumption | exact Ne.symm (by assumption))))))
local macro_rules | `(tactic| walk_at "lk") => `(tactic| (repeat (first | exact lk_hit | exact lk_nil | refine lk_skip (by decide +kernel) ?_)))
local macro_rules | `(tactic| walk_at "pf") => `(tactic| (repeat (first | rw [pf_nil] | rw [pf_hit] | (rw [pf_skip]; rotate_left; (focus (decide +kernel; done))))))
local macro_rules | `(tactic| walk_at "q") => `(tactic| ((with_reducible conv => whnf); repeat (first
  | (with_reducible refine q_t (by assumption) ?_; with_reducible conv => whnf)
  | (with_reducible refine q_f (by assumption) ?_; with_reducible conv => whnf)
  | (with_reducible refine q_t (by with_reducible rfl) ?_; with_reducible conv => whnf)
  | (with_reducible refine q_f (by with_reducible rfl) ?_; with_reducible conv => whnf)
  | (with_reducible refine q_t (by decide) ?_; with_reducible conv => whnf)
  | (with_reducible refine q_f (by decide) ?_; with_reducible conv => whnf)
  | (with_reducible refine q_t (decide_eq_true (by omega)) ?_; with_reducible conv => whnf)
  | (with_reducible refine q_f (decide_eq_false (by omega)) ?_; with_reducible conv => whnf)
  | (with_reducible refine q_f (q_nn (by omega)) ?_; with_reducible conv => whnf)
  | (with_reducible refine q_t (q_nt (by omega)) ?_; with_reducible conv => whnf)
  | (with_reducible refine q_len (by with_unfolding_all rfl) ?_; with_reducible conv => whnf)
  | (with_reducible refine q_leq (by with_unfolding_all rfl) ?_; with_reducible conv => whnf)
  | (with_reducible refine q_and (by first | assumption | exact True.intro | omega | (simp only [List.length_map, List.length_append, List.length_cons, List.length_nil]; omega) | decide) ?_; with_reducible conv => whnf)
  | (with_reducible refine q_le (by with_unfolding_all rfl) ?_; with_reducible conv => whnf)
  | (with_reducible refine q_and tyL_lst ?_; with_reducible conv => whnf)
  | (with_reducible refine q_and tyL_rol ?_; with_reducible conv => whnf)
  | (with_reducible refine q_and (tyL_ref (by walk_at "mu")) ?_; with_reducible conv => whnf)
  | (with_reducible refine q_and (tyD_ref (by walk_at "mu")) ?_; with_reducible conv => whnf)
  | (with_reducible refine q_and (rdD_ref (by walk_at "mu")) ?_; with_reducible conv => whnf)
  | (rw [pick_c0]; with_reducible conv => whnf)
  | (rw [pick_c1]; with_reducible conv => whnf)
  | (rw [pick_c2]; with_reducible conv => whnf)
  | (rw [pick_c3]; with_reducible conv => whnf)
  | (rw [pick_c4]; with_reducible conv => whnf)
  | (rw [pick_c5]; with_reducible conv => whnf)
  | (rw [mset_same]; with_reducible conv => whnf)
  | (rw [mset_ne (by assumption)]; with_reducible conv => whnf)
  | (rw [mset_ne]; rotate_left; (first | assumption | exact Ne.symm (by assumption)); with_reducible conv => whnf)
  | (rw [rdL_ref]; rotate_left; (focus (walk_at "mu"; done)); with_reducible conv => whnf)
  | (rw [rdL_refD]; rotate_left; (focus (walk_at "mu"; done)); with_reducible conv => whnf)
  | (rw [rdD_refD]; rotate_left; (focus (walk_at "mu"; done)); with_reducible conv => whnf)
  | (rw [rdM_ref]; rotate_left; (focus (walk_at "mu"; done)); with_reducible conv => whnf)
  | (rw [rdL_refK]; rotate_left; (focus (walk_at "mu"; done)); with_reducible conv => whnf)
  | (rw [rdD_refK]; rotate_left; (focus (walk_at "mu"; done)); with_reducible conv => whnf)
  | (rw [tyW_refL]; rotate_left; (focus (walk_at "mu"; done)); with_reducible conv => whnf)
  | (rw [tyW_refD]; rotate_left; (focus (walk_at "mu"; done)); with_reducible conv => whnf)
  | (rw [drf_ref]; rotate_left; (focus (walk_at "mu"; done)); with_reducible conv => whnf)
  | ((conv => (arg 2; tactic' => (walk_at "mu"; done))); with_reducible conv => whnf)
  | (with_reducible refine q_and (Eq.refl _) ?_; with_reducible conv => whnf)
  | (with_reducible refine q_and (MulO.r (by decide)) ?_; with_reducible conv => whnf)
  | (with_reducible refine q_and (MulO.l (by decide)) ?_; with_reducible conv => whnf)
  | (with_reducible refine q_and (MulO.r (by omega)) ?_; with_reducible conv => whnf)
  | (with_reducible refine q_and (MulO.l (by omega)) ?_; with_reducible conv => whnf)
  | (with_reducible refine q_pow (by decide) ?_; with_reducible conv => whnf)
  | (with_reducible refine q_nisT (by first | assumption | with_reducible rfl) ?_; with_reducible conv => whnf)
  | (with_reducible refine q_nisF (by first | assumption | with_reducible rfl) ?_; with_reducible conv => whnf)
  | (with_reducible refine q_eqI ?_; with_reducible conv => whnf)
  | (with_reducible refine q_eqS ?_; with_reducible conv => whnf)
  | (with_reducible refine q_eqB ?_; with_reducible conv => whnf)
  | (with_reducible refine q_neI ?_; with_reducible conv => whnf)
  | (with_reducible refine q_neS ?_; with_reducible conv => whnf)
  | (with_reducible refine q_neB ?_; with_reducible conv => whnf)
  | (with_reducible refine q_memc ?_; with_reducible conv => whnf)
  | (with_reducible refine q_lkn (by walk_at "lk") ?_; with_reducible conv => whnf)
  | (with_reducible refine q_tix (by walk_at "lk"; done) ?_; with_reducible conv => whnf)
  | (with_reducible refine q_tin ?_; with_reducible conv => whnf)
  | (rw [pf_hit]; with_reducible conv => whnf)
  | (rw [pf_skip]; rotate_left; (focus (decide +kernel; done)); with_reducible conv => whnf)
  | (rw [lk_hit]; with_reducible conv => whnf)
  | (rw [lk_skip1]; rotate_left; (focus (decide +kernel; done)); with_reducible conv => whnf))))
/-! operations on a table -/
abbrev It : Type := Tb Str Str
inductive Op where
  | get (k : Str) | put (k v : Str) | drop (k : Str) | swap (k o n : Str) | page (b : Str) (m : Nat)
def Op.w : Op → W
  | .get k => .tup [.str "get", .str k]
  | .put k v => .tup [.str "put", .str k, .str v]
  | .drop k => .tup [.str "drop", .str k]
  | .swap k o n => .tup [.str "swap", .str k, .str o, .str n]
  | .page b m => .tup [.str "page", .str b, .int (m : Int)]
def Op.place : Op → Str
  | .get k | .put k _ | .drop k | .swap k _ _ | .page k _ => k
def valS (v : Str) : Bool := printB v && decide (v.length ≤ 40)
def Op.Ok : Op → Prop
  | .get k | .drop k => isKeyB k = true
  | .put k v => isKeyB k = true ∧ valS v = true
  | .swap k o n => isKeyB k = true ∧ valS o = true ∧ valS n = true
  | .page b m => (isKeyB b || decide (b = "")) = true ∧ 1 ≤ m ∧ m ≤ 50
theorem op_get {k : Str} : Op.w (.get k) = .tup [.str "get", .str k] := rfl
theorem op_put {k v : Str} : Op.w (.put k v) = .tup [.str "put", .str k, .str v] := rfl
theorem op_drop {k : Str} : Op.w (.drop k) = .tup [.str "drop", .str k] := rfl
theorem op_swap {k o n : Str} : Op.w (.swap k o n) = .tup [.str "swap", .str k, .str o, .str n] := rfl
theorem op_page {b : Str} {m : Nat} : Op.w (.page b m) = .tup [.str "page", .str b, .int (m : Int)] := rfl
section
variable {i : Addr} {it : It} {hi : W} {μ : Mu} {P : Po} {X : Xo}
/-! operations are operations -/
theorem key_len {k : Str} (h : isKeyB k = true) : k.length ≤ 8 := by
  unfold isKeyB at h
  exact (of_decide_eq_true (Bool.and_eq_true_iff.mp h).1).2
theorem val_len {v : Str} (h : valS v = true) : v.length ≤ 40 := of_decide_eq_true (Bool.and_eq_true_iff.mp h).2
theorem op_ok {op : Op} (h : op.Ok) : opW op.w = true ∧ dp op.w = true := by
  have dz : ∀ z : Str, z.length ≤ 100 → dp (.str z) = true := fun z hz => by
    unfold dp
    exact decide_eq_true (by omega)
  have dn : dps [] = true := by unfold dps; rfl
  cases op with
  | get k =>
    have k1 : isKeyB k = true := h
    refine ⟨?_, ?_⟩
    · show ((decide (("get" : Str) = "get") || decide (("get" : Str) = "drop")) && isKeyB k) = true
      rw [k1]
      decide +kernel
    · rw [op_get]
      unfold dp dps dps
      rw [dz k (by have := key_len k1; omega), dz "get" (by decide +kernel), dn]
      rfl
  | drop k =>
    have k1 : isKeyB k = true := h
    refine ⟨?_, ?_⟩
    · show ((decide (("drop" : Str) = "get") || decide (("drop" : Str) = "drop")) && isKeyB k) = true
      rw [k1]
      decide +kernel
    · rw [op_drop]
      unfold dp dps dps
      rw [dz k (by have := key_len k1; omega), dz "drop" (by decide +kernel), dn]
      rfl
  | put k v =>
    obtain ⟨k1, v1⟩ : isKeyB k = true ∧ valS v = true := h
    refine ⟨?_, ?_⟩
    · show ((decide (("put" : Str) = "put") && (isKeyB k && valS v)) || (decide (("put" : Str) = "page") && (boundW (.str k) && intB (.str v) 1 50))) = true
      rw [k1, v1, show decide (("put" : Str) = "put") = true by decide +kernel]
      rfl
    · rw [op_put]
      unfold dp dps dps dps
      rw [dz k (by have := key_len k1; omega), dz v (by have := val_len v1; omega), dz "put" (by decide +kernel), dn]
      rfl
  | swap k o n =>
    obtain ⟨k1, o1, n1⟩ : isKeyB k = true ∧ valS o = true ∧ valS n = true := h
    refine ⟨?_, ?_⟩
    · show (decide (("swap" : Str) = "swap") && (isKeyB k && (valS o && valS n))) = true
      rw [k1, o1, n1]
      decide +kernel
    · rw [op_swap]
      unfold dp dps dps dps dps
      rw [dz k (by have := key_len k1; omega), dz o (by have := val_len o1; omega), dz n (by have := val_len n1; omega), dz "swap" (by decide +kernel), dn]
      rfl
  | page b m =>
    obtain ⟨b1, m1, m2⟩ : (isKeyB b || decide (b = "")) = true ∧ 1 ≤ m ∧ m ≤ 50 := h
    refine ⟨?_, ?_⟩
    · show ((decide (("page" : Str) = "put") && (keyW (.str b) && valB (.int m))) || (decide (("page" : Str) = "page") && ((isKeyB b || decide (b = "")) && (decide ((1 : Int) ≤ (m : Int)) && decide ((m : Int) ≤ 50))))) = true
      rw [b1, decide_eq_true (show (1 : Int) ≤ (m : Int) by omega), decide_eq_true (show (m : Int) ≤ 50 by omega), show decide (("page" : Str) = "put") = false by decide +kernel]
      simp
    · have lb : b.length ≤ 100 := by
        rcases Bool.or_eq_true_iff.mp b1 with z | z
        · have := key_len z
          omega
        · rw [of_decide_eq_true z]
          decide +kernel
      rw [op_page]
      unfold dp dps dps dps
      rw [dz b lb, dz "page" (by decide +kernel), dn]
      simp only [dp]
      rfl
theorem sp_placeO {op : Op} {μ : Mu} {P : Po} {X : Xo} (ho : op.Ok) (h : P (.str op.place) μ) : f_place [op.w] μ P X := by
  obtain ⟨o1, o2⟩ := op_ok ho
  rw [f_place_eq]; unfold f_place_B fDef
  refine ⟨rfl, ?_⟩
  walk_at "q"
  refine sp_op o2 ?_
  rw [o1]
  cases op with
  | get k =>
    rw [op_get]
    walk_at "q"
    exact Rt.now h
  | put k v =>
    rw [op_put]
    walk_at "q"
    exact Rt.now h
  | drop k =>
    rw [op_drop]
    walk_at "q"
    exact Rt.now h
  | swap k o n =>
    rw [op_swap]
    walk_at "q"
    exact Rt.now h
  | page b m =>
    rw [op_page]
    walk_at "q"
    exact Rt.now h
end
end Q
namespace Q
open PySem L2
local macro_rules | `(tactic| walk_at "mu") => `(tactic| (repeat (first | exact mset_same | assumption | (rw [mset_ne]; rotate_left; (first | assumption | exact Ne.symm (by assumption))))))
local macro_rules | `(tactic| walk_at "lk") => `(tactic| (repeat (first | exact lk_hit | exact lk_nil | refine lk_skip (by decide +kernel) ?_)))
local macro_rules | `(tactic| walk_at "pf") => `(tactic| (repeat (first | rw [pf_nil] | rw [pf_hit] | (rw [pf_skip]; rotate_left; (focus (decide +kernel; done))))))
local macro_rules | `(tactic| walk_at "q") => `(tactic| ((with_reducible conv => whnf); repeat (first
  | (with_reducible refine q_t (by assumption) ?_; with_reducible conv => whnf)
  | (with_reducible refine q_f (by assumption) ?_; with_reducible conv => whnf)
  | (with_reducible refine q_t (by with_reducible rfl) ?_; with_reducible conv => whnf)
  | (with_reducible refine q_f (by with_reducible rfl) ?_; with_reducible conv => whnf)
  | (with_reducible refine q_t (by decide) ?_; with_reducible conv => whnf)
  | (with_reducible refine q_f (by decide) ?_; with_reducible conv => whnf)
  | (with_reducible refine q_t (decide_eq_true (by omega)) ?_; with_reducible conv => whnf)
  | (with_reducible refine q_f (decide_eq_false (by omega)) ?_; with_reducible conv => whnf)
  | (with_reducible refine q_f (q_nn (by omega)) ?_; with_reducible conv => whnf)
  | (with_reducible refine q_t (q_nt (by omega)) ?_; with_reducible conv => whnf)
  | (with_reducible refine q_len (by with_unfolding_all rfl) ?_; with_reducible conv => whnf)
  | (with_reducible refine q_leq (by with_unfolding_all rfl) ?_; with_reducible conv => whnf)
  | (with_reducible refine q_and (by first | assumption | exact True.intro | omega | (simp only [List.length_map, List.length_append, List.length_cons, List.length_nil]; omega) | decide) ?_; with_reducible conv => whnf)
  | (with_reducible refine q_le (by with_unfolding_all rfl) ?_; with_reducible conv => whnf)
  | (with_reducible refine q_and tyL_lst ?_; with_reducible conv => whnf)
  | (with_reducible refine q_and tyL_rol ?_; with_reducible conv => whnf)
  | (with_reducible refine q_and (tyL_ref (by walk_at "mu")) ?_; with_reducible conv => whnf)
  | (with_reducible refine q_and (tyD_ref (by walk_at "mu")) ?_; with_reducible conv => whnf)
  | (with_reducible refine q_and (rdD_ref (by walk_at "mu")) ?_; with_reducible conv => whnf)
  | (rw [pick_c0]; with_reducible conv => whnf)
  | (rw [pick_c1]; with_reducible conv => whnf)
  | (rw [pick_c2]; with_reducible conv => whnf)
  | (rw [pick_c3]; with_reducible conv => whnf)
  | (rw [pick_c4]; with_reducible conv => whnf)
  | (rw [pick_c5]; with_reducible conv => whnf)
  | (rw [mset_same]; with_reducible conv => whnf)
  | (rw [mset_ne (by assumption)]; with_reducible conv => whnf)
  | (rw [mset_ne]; rotate_left; (first | assumption | exact Ne.symm (by assumption)); with_reducible conv => whnf)
  | (rw [rdL_ref]; rotate_left; (focus (walk_at "mu"; done)); with_reducible conv => whnf)
  | (rw [rdL_refD]; rotate_left; (focus (walk_at "mu"; done)); with_reducible conv => whnf)
  | (rw [rdD_refD]; rotate_left; (focus (walk_at "mu"; done)); with_reducible conv => whnf)
  | (rw [rdM_ref]; rotate_left; (focus (walk_at "mu"; done)); with_reducible conv => whnf)
  | (rw [rdL_refK]; rotate_left; (focus (walk_at "mu"; done)); with_reducible conv => whnf)
  | (rw [rdD_refK]; rotate_left; (focus (walk_at "mu"; done)); with_reducible conv => whnf)
  | (rw [tyW_refL]; rotate_left; (focus (walk_at "mu"; done)); with_reducible conv => whnf)
  | (rw [tyW_refD]; rotate_left; (focus (walk_at "mu"; done)); with_reducible conv => whnf)
  | (rw [drf_ref]; rotate_left; (focus (walk_at "mu"; done)); with_reducible conv => whnf)
  | ((conv => (arg 2; tactic' => (walk_at "mu"; done))); with_reducible conv => whnf)
  | (with_reducible refine q_and (Eq.refl _) ?_; with_reducible conv => whnf)
  | (with_reducible refine q_and (MulO.r (by decide)) ?_; with_reducible conv => whnf)
  | (with_reducible refine q_and (MulO.l (by decide)) ?_; with_reducible conv => whnf)
  | (with_reducible refine q_and (MulO.r (by omega)) ?_; with_reducible conv => whnf)
  | (with_reducible refine q_and (MulO.l (by omega)) ?_; with_reducible conv => whnf)
  | (with_reducible refine q_pow (by decide) ?_; with_reducible conv => whnf)
  | (with_reducible refine q_nisT (by first | assumption | with_reducible rfl) ?_; with_reducible conv => whnf)
  | (with_reducible refine q_nisF (by first | assumption | with_reducible rfl) ?_; with_reducible conv => whnf)
  | (with_reducible refine q_eqI ?_; with_reducible conv => whnf)
  | (with_reducible refine q_eqS ?_; with_reducible conv => whnf)
  | (with_reducible refine q_eqB ?_; with_reducible conv => whnf)
  | (with_reducible refine q_neI ?_; with_reducible conv => whnf)
  | (with_reducible refine q_neS ?_; with_reducible conv => whnf)
  | (with_reducible refine q_neB ?_; with_reducible conv => whnf)
  | (with_reducible refine q_memc ?_; with_reducible conv => whnf)
  | (with_reducible refine q_lkn (by walk_at "lk") ?_; with_reducible conv => whnf)
  | (with_reducible refine q_tix (by walk_at "lk"; done) ?_; with_reducible conv => whnf)
  | (with_reducible refine q_tin ?_; with_reducible conv => whnf)
  | (rw [pf_hit]; with_reducible conv => whnf)
  | (rw [pf_skip]; rotate_left; (focus (decide +kernel; done)); with_reducible conv => whnf)
  | (rw [lk_hit]; with_reducible conv => whnf)
  | (rw [lk_skip1]; rotate_left; (focus (decide +kernel; done)); with_reducible conv => whnf))))
/-! the routes again, over the bounds of another law -/
namespace C4
section
open Mspan
def b9 (i : Nat) : Str := (["", "d", "k", "m"] : List Str).getD i ""
theorem inc9 : Inc b9 4 := fun i j h1 h2 => by
  have key : ∀ j : Fin 4, ∀ i : Fin 4, i < j → sLt (b9 i.1) (b9 j.1) = true := by decide +kernel
  exact key ⟨j, h2⟩ ⟨i, by omega⟩ h1
abbrev enR : Sp Rep → W := en b9 4 ew
def RepAt (r : Rep) (lo hi : Nat) : Prop := r.lo = b9 lo ∧ r.hi = bo b9 4 hi ∧ lo < hi ∧ hi ≤ 4
theorem sp_add {S : List (Sp Rep)} {r : Rep} {lo hi : Nat} {R a Pt : Addr} {μ : Mu} {P : Po} {X : Xo} (hr : RepAt r lo hi) (hR : μ R = some (insR a)) (ha : μ a = some (.ls (S.map enR))) (hT : μ Pt = some (.tb ("fused", none) ("fused" ++ ".<locals>." ++ "<lambda>")))
    (hp : Pos S) (hs : Asc S) (hS : ∀ x ∈ S, x.2.1 ≤ 4) (hl : S.length ≤ 4)
    (k : ∀ p, μ p = none → P .non (mset (mset μ p (.ls ((fuse (srt (acted lo hi r (nw r) S))).map enR))) R (insR p))) : f_Routes_add_2 [.ref R, ew r] μ P X := by
  obtain ⟨e1, e2, hlh, h9⟩ := hr
  have eR : ew r = .tup [.str (b9 lo), bw b9 4 hi, .int r.ep, .int r.x, .int r.y, .str r.mid] := by
    unfold ew
    rw [e1, e2]
  rw [f_Routes_add_2_eq]; unfold f_Routes_add_2_B fDef
  refine ⟨rfl, ?_⟩
  rw [eR]
  unfold insR at hR
  walk_at "q"
  refine sp_apart inc9 ha hp hS (by omega) hlh h9 fun p1 q1 hp1 hq1 n1 => ?_
  walk_at "q"
  rw [← eR]
  have fI := fill_ok (w := r) (Nat.le_of_lt hlh) (pos_in hlh hp) (asc_in (lo := lo) (hi := hi) hs) inR_in
  have l1 := len_in (lo := lo) (hi := hi) S
  have l2 := len_out (lo := lo) (hi := hi) S
  have g1 : mset (mset μ p1 (.ls ((S.flatMap (inS lo hi)).map (en b9 4 ew)))) q1 (.ls ((S.flatMap (outS lo hi)).map (en b9 4 ew))) p1 = some (.ls ((S.flatMap (inS lo hi)).map (en b9 4 ew))) := by rw [mset_ne (Ne.symm n1), mset_same]
  refine sp_filled inc9 g1 (pos_in hlh hp) (asc_in hs) inR_in (by omega) hlh h9 fun p2 hp2 => ?_
  obtain ⟨n2, hp2⟩ := new_ne hp2
  obtain ⟨n3, hp2⟩ := new_ne hp2
  walk_at "q"
  refine lcV_m (en b9 4 ew) (fun x => en b9 4 ew (upw (nw r) x)) (fill r hi lo (S.flatMap (inS lo hi))) ?_ ?_ (fun x hx μ' he Y hY => ?_) ?_
  · have := len_fill (w := r) (hi := hi) (S.flatMap (inS lo hi)) lo
    omega
  · exact fun μ' he => rdL_ref (he _ _ mset_same)
  · obtain ⟨s, e, v⟩ := x
    show gT 3 _ (.tup [bw b9 4 s, bw b9 4 e, ew v]) _ _ _
    walk_at "q"
    refine sp_newer ?_
    walk_at "q"
    exact hY
  · walk_at "q"
    have l3 := len_fill (w := r) (hi := hi) (S.flatMap (inS lo hi)) lo
    refine ⟨by rw [List.length_map, List.length_map]; omega, ?_⟩
    walk_at "q"
    have eA : (S.flatMap (outS lo hi)).map (en b9 4 ew) ++ (fill r hi lo (S.flatMap (inS lo hi))).map (fun x => en b9 4 ew (upw (nw r) x)) = (acted lo hi r (nw r) S).map (en b9 4 ew) := by
      unfold acted
      rw [List.map_append, List.map_map]
      rfl
    rw [eA]
    obtain ⟨a1, a2, a3⟩ := acted_ok (w := r) (g := nw r) hlh hp hs (srt_perm (acted lo hi r (nw r) S)) (srt_le _)
    have pA : Pos (acted lo hi r (nw r) S) := fun x hx => a1 x ((srt_perm _).mem_iff.mpr hx)
    have eA9 : ∀ x ∈ acted lo hi r (nw r) S, x.2.1 ≤ 4 := fun x hx => by
      rcases List.mem_append.mp hx with hx | hx
      · obtain ⟨y, hy, h'⟩ := List.mem_flatMap.mp hx
        have := hS y hy
        rcases mem_out.mp h' with ⟨c, rfl⟩ | ⟨c, rfl⟩
        · show min y.2.1 lo ≤ 4
          omega
        · exact this
      · obtain ⟨y, hy, rfl⟩ := List.mem_map.mp hx
        have := (fI.2.2.1 y hy).2
        show y.2.1 ≤ 4
        omega
    have lA : (acted lo hi r (nw r) S).length ≤ 5000 := by
      unfold acted
      rw [List.length_append, List.length_map]
      omega
    have tn : ∀ z, μ z = none → z ≠ Pt := fun z hz e => by
      rw [e, hT] at hz
      cases hz
    refine sp_fused inc9 (Pt := Pt) ew_eq ew_D (by rw [mset_ne (Ne.symm (tn p2 hp2)), mset_ne (Ne.symm (tn q1 hq1)), mset_ne (Ne.symm (tn p1 hp1)), hT]) pA eA9 lA fun p hpn => ?_
    obtain ⟨m1, hpn⟩ := new_ne hpn
    obtain ⟨m2, hpn⟩ := new_ne hpn
    obtain ⟨m3, hpn⟩ := new_ne hpn
    have rn : ∀ z, μ z = none → z ≠ R := fun z hz e => by
      rw [e, hR] at hz
      cases hz
    have r1 := rn p1 hp1
    have r2 := rn q1 hq1
    have r3 := rn p2 hp2
    have r4 := rn p hpn
    walk_at "q"
    refine ⟨_, mset (mset μ p (.ls ((fuse (srt (acted lo hi r (nw r) S))).map enR))) R (insR p), fun b o hb => ?_, .same _, k p hpn⟩
    by_cases b1 : b = R
    · rw [b1, mset_same] at hb ⊢
      exact hb
    · rw [mset_ne b1] at hb ⊢
      by_cases b2 : b = p
      · rw [b2, mset_same] at hb ⊢
        exact hb
      · rw [mset_ne b2] at hb ⊢
        have no : ∀ z, μ z = none → b ≠ z := fun z hz e => by
          rw [e, hz] at hb
          cases hb
        rw [mset_ne (no p2 hp2), mset_ne (no q1 hq1), mset_ne (no p1 hp1)]
        exact hb
def hasB (z : Str) (x : Sp Rep) : Bool := !sLt z (b9 x.1) && belowB z (bo b9 4 x.2.1)
theorem sp_contains {s e : Nat} {v : Rep} {z : Str} (hs : s < 4) {μ : Mu} {P : Po} {X : Xo} (h : P (.bl (hasB z (s, e, v))) μ) : f_contains [bw b9 4 s, bw b9 4 e, .str z] μ P X := by
  rw [f_contains_eq]; unfold f_contains_B fDef
  refine ⟨rfl, ?_⟩
  rw [bw_lt hs]
  unfold hasB at h
  walk_at "q"
  refine q_if (fun c => ?_) fun c => ?_
  · walk_at "q"
    refine sp_below ?_
    rw [c] at h
    exact Rt.now h
  · walk_at "q"
    rw [c] at h
    exact Rt.now h
def findW (S : List (Sp Rep)) (z : Str) : W := match S.find? (hasB z) with
  | some x => enR x
  | none => .non
theorem findW_some {S : List (Sp Rep)} {z : Str} {x : Sp Rep} (h : S.find? (hasB z) = some x) : findW S z = enR x := by
  unfold findW
  rw [h]
theorem findW_none {S : List (Sp Rep)} {z : Str} (h : S.find? (hasB z) = none) : findW S z = .non := by
  unfold findW
  rw [h]
theorem sp_find {S : List (Sp Rep)} {R a : Addr} {z : Str} {μ : Mu} {P : Po} {X : Xo} (hR : μ R = some (insR a)) (ha : μ a = some (.ls (S.map enR))) (hS : ∀ x ∈ S, x.1 < 4) (h : P (findW S z) μ) : f_Routes_find [.ref R, .str z] μ P X := by
  rw [f_Routes_find_eq]; unfold f_Routes_find_B fDef
  refine ⟨rfl, ?_⟩
  unfold insR at hR
  walk_at "q"
  refine itS_find enR (hasB z) enR (fun ρ => ∃ x2 : Option W, ρ = [some (.ref R), some (.str z), x2]) (rdL_ref ha) S ⟨none, rfl⟩ ?_ ?_ ?_
  · rintro ⟨s, e, v⟩ hx ρ ⟨x2, rfl⟩ K hK hY
    show gN 2 (.tup [bw b9 4 s, bw b9 4 e, ew v]) _ _ _
    walk_at "q"
    refine sp_contains (v := v) (hS _ hx) ?_
    refine q_if (fun c => ?_) fun c => ?_
    · walk_at "q"
      exact hY c
    · walk_at "q"
      exact hK c _ ⟨_, rfl⟩
  · rintro e ρ ⟨x2, rfl⟩
    rw [findW_none e] at h
    walk_at "q"
    exact Rt.now h
  · intro x e
    rw [findW_some e] at h
    exact Rt.now h
theorem sp_drop {S : List (Sp Rep)} {R a : Addr} {z : Str} {μ : Mu} {P : Po} {X : Xo} (hR : μ R = some (insR a)) (ha : μ a = some (.ls (S.map enR))) (hS : ∀ x ∈ S, x.1 < 4) (hl : S.length ≤ 1000)
    (k : ∀ p, μ p = none → P .non (mset (mset μ p (.ls ((S.filter fun x => !hasB z x).map enR))) R (insR p))) : f_Routes_drop_2 [.ref R, .str z] μ P X := by
  rw [f_Routes_drop_2_eq]; unfold f_Routes_drop_2_B fDef
  refine ⟨rfl, ?_⟩
  unfold insR at hR
  walk_at "q"
  refine lcR_tm enR enR (fun x => !hasB z x) S (by omega) (fun μ' he => rdL_ref (he _ _ ha)) (fun x hx μ' he N Y hn hy => ?_) fun p hpn => ?_
  · obtain ⟨s, e, v⟩ := x
    show gN 2 (.tup [bw b9 4 s, bw b9 4 e, ew v]) _ _ _
    walk_at "q"
    refine sp_contains (v := v) (hS _ hx) ?_
    cases c : hasB z (s, e, v) with
    | true =>
      walk_at "q"
      exact hn (by rw [c]; rfl)
    | false =>
      walk_at "q"
      exact hy (by rw [c]; rfl)
  · have rn : p ≠ R := fun e => by
      rw [e, hR] at hpn
      cases hpn
    walk_at "q"
    exact Rt.now (k p hpn)
theorem sp_pieces {S : List (Sp Rep)} {R a : Addr} {μ : Mu} {P : Po} {X : Xo} (hR : μ R = some (insR a)) (ha : μ a = some (.ls (S.map enR))) (hl : S.length ≤ 1000) (k : ∀ p, μ p = none → P (.ref p) (mset μ p (.ls (S.map enR)))) : f_Routes_pieces_2 [.ref R] μ P X := by
  rw [f_Routes_pieces_2_eq]; unfold f_Routes_pieces_2_B fDef
  refine ⟨rfl, ?_⟩
  unfold insR at hR
  have rA : rdA μ (.ref a) = some (S.map enR) := rdL_ref ha
  walk_at "q"
  intro p hpn
  exact Rt.now (k p hpn)
def DoneC (f : Nat → Cell → Cell) (L L' : List Cell) (k : Nat) : Prop := L'.length = 4 ∧ ∀ i, L'[i]? = if i < k then (L[i]?).map (f i) else L[i]?
theorem DoneC.keep {f : Nat → Cell → Cell} {L L' : List Cell} {k : Nat} {c : Cell} (h : DoneC f L L' k) (hc : L[k]? = some c) (e : f k c = c) : DoneC f L L' (k + 1) := by
  refine ⟨h.1, fun i => ?_⟩
  rw [h.2 i]
  by_cases d : i < k
  · rw [if_pos d, if_pos (by omega)]
  · rw [if_neg d]
    by_cases d2 : i = k
    · rw [if_pos (by omega), d2, hc]
      exact congrArg some e.symm
    · rw [if_neg (by omega)]
theorem DoneC.put {f : Nat → Cell → Cell} {L L' : List Cell} {k : Nat} {c : Cell} (h : DoneC f L L' k) (hk : k < 4) (hc : L[k]? = some c) : DoneC f L (L'.set k (f k c)) (k + 1) := by
  refine ⟨by rw [List.length_set]; exact h.1, fun i => ?_⟩
  rw [List.getElem?_set]
  by_cases d : k = i
  · rw [if_pos d, if_pos (by rw [h.1]; exact hk), if_pos (by omega), ← d, hc]
    rfl
  · rw [if_neg d, h.2 i]
    by_cases d2 : i < k
    · rw [if_pos d2, if_pos (by omega)]
    · rw [if_neg d2, if_neg (by omega)]
def upC (m : Int) (r : Rep) (lo hi i : Nat) (c : Cell) : Cell := if lo ≤ i ∧ i < hi then (match c with
  | none => some (m, r)
  | some (_, o) => if o.ep ≤ r.ep then some (m, r) else c) else c
def lawP (L : List Cell) : List (Sp Rep) := fuse (upTo L 4)
theorem lawP_ok (L : List Cell) : Pos (lawP L) ∧ Nrm (lawP L) ∧ ∀ k w, Has (lawP L) k w ↔ k < 4 ∧ ∃ m, L[k]? = some (some (m, w)) := by
  obtain ⟨h1, h2, h3⟩ := fuse_ok (xs := upTo L 4) upTo_pos (upTo_asc 4)
  exact ⟨h1, h2, fun k w => by unfold lawP; rw [h3, has_upTo]⟩
theorem pos_end {S : List (Sp Rep)} (hp : Pos S) (h : ∀ k w, Has S k w → k < 4) : ∀ x ∈ S, x.1 < 4 ∧ x.2.1 ≤ 4 := fun x hx => by
  have p := hp x hx
  have a := h (x.2.1 - 1) x.2.2 ⟨x, hx, by omega, by omega, rfl⟩
  omega
theorem lawP_end (L : List Cell) : ∀ x ∈ lawP L, x.1 < 4 ∧ x.2.1 ≤ 4 := pos_end (lawP_ok L).1 fun k w h => (((lawP_ok L).2.2 k w).mp h).1
theorem asc_len : ∀ {S : List (Sp Rep)} {a : Nat}, Pos S → Asc S → (∀ x ∈ S, a ≤ x.1 ∧ x.2.1 ≤ 4) → S.length + a ≤ 4 ∨ S = []
  | [], a, _, _, _ => .inr rfl
  | x :: S, a, hp, hs, h => by
    obtain ⟨s1, s2⟩ := List.pairwise_cons.mp hs
    have hx := h x List.mem_cons_self
    have px := hp x List.mem_cons_self
    left
    rcases asc_len (S := S) (a := x.2.1) (fun y hy => hp y (List.mem_cons_of_mem _ hy)) s2 (fun y hy => ⟨s1 y hy, (h y (List.mem_cons_of_mem _ hy)).2⟩) with q | q
    · rw [List.length_cons]
      omega
    · rw [q, List.length_singleton]
      omega
theorem len9 {S : List (Sp Rep)} (hp : Pos S) (hs : Asc S) (h : ∀ x ∈ S, x.1 < 4 ∧ x.2.1 ≤ 4) : S.length ≤ 4 := by
  rcases asc_len (a := 0) hp hs fun x hx => ⟨Nat.zero_le _, (h x hx).2⟩ with q | q
  · omega
  · rw [q]
    exact Nat.zero_le _
def dropC (f : Option (Sp Rep)) (i : Nat) (c : Cell) : Cell := match f with
  | some x => if x.1 ≤ i ∧ i < x.2.1 then none else c
  | none => c
theorem bo_inj {i j : Nat} (hi : i ≤ 4) (hj : j ≤ 4) (e : bo b9 4 i = bo b9 4 j) : i = j := by
  unfold bo at e
  split at e
  · split at e
    · exact b_inj inc9 (by assumption) (by assumption) (Option.some.inj e)
    · cases e
  · split at e
    · cases e
    · omega
structure Keep (L : List Cell) (m : Int) : Prop where
  len : L.length = 4
  one : OneCall L
  at_ : ∀ (i : Nat) (a : Int) (r : Rep), L[i]? = some (some (a, r)) → a < m ∧ ∃ lo hi, RepAt r lo hi ∧ lo ≤ i ∧ i < hi
theorem done_at {f : Nat → Cell → Cell} {L L' : List Cell} (h : DoneC f L L' 4) (hL : L.length = 4) (i : Nat) : L'[i]? = (L[i]?).map (f i) := by
  rw [h.2 i]
  by_cases c : i < 4
  · rw [if_pos c]
  · rw [if_neg c, List.getElem?_eq_none (by omega)]
    rfl
theorem keep_add {L L' : List Cell} {m : Int} {r : Rep} {lo hi : Nat} (h : Keep L m) (hr : RepAt r lo hi) (hD : DoneC (upC m r lo hi) L L' 4) : Keep L' (m + 1) ∧ fuse (srt (acted lo hi r (nw r) (lawP L))) = lawP L' := by
  have at' := done_at hD h.len
  have uniq : ∀ {l2 h2 : Nat}, RepAt r l2 h2 → l2 = lo ∧ h2 = hi := fun {l2 h2} q => by
    obtain ⟨q1, q2, q3, q4⟩ := q
    obtain ⟨p1, p2, p3, p4⟩ := hr
    exact ⟨b_inj inc9 (by omega) (by omega) (q1.symm.trans p1), bo_inj q4 p4 (q2.symm.trans p2)⟩
  -- a cell after: unchanged, or the new call
  have cell : ∀ (i : Nat) (a : Int) (u : Rep), L'[i]? = some (some (a, u)) → (L[i]? = some (some (a, u)) ∧ ¬ (lo ≤ i ∧ i < hi ∧ u.ep ≤ r.ep)) ∨ (a = m ∧ u = r ∧ lo ≤ i ∧ i < hi) := fun i a u e => by
    rw [at' i] at e
    obtain ⟨c, hc, e⟩ := Option.map_eq_some_iff.mp e
    unfold upC at e
    split at e
    · rename_i ci
      split at e
      · cases e
        exact .inr ⟨rfl, rfl, ci⟩
      · rename_i n0 o
        split at e
        · cases e
          exact .inr ⟨rfl, rfl, ci⟩
        · rename_i ne
          cases e
          exact .inl ⟨hc, fun z => ne z.2.2⟩
    · rename_i ci
      subst e
      exact .inl ⟨hc, fun z => ci ⟨z.1, z.2.1⟩⟩
  have same : ∀ (i : Nat) (a : Int), L'[i]? = some (some (a, r)) → a = m := fun i a e => by
    rcases cell i a r e with ⟨e1, e2⟩ | ⟨e1, _⟩
    · obtain ⟨_, l2, h2, q, q1, q2⟩ := h.at_ i a r e1
      obtain ⟨rfl, rfl⟩ := uniq q
      exact absurd ⟨q1, q2, Int.le_refl _⟩ e2
    · exact e1
  refine ⟨⟨hD.1, fun i j a c u e1 e2 => ?_, fun i a u e => ?_⟩, ?_⟩
  · by_cases d : u = r
    · subst d
      rw [same i a e1, same j c e2]
    · rcases cell i a u e1 with ⟨f1, _⟩ | ⟨_, f1, _⟩
      · rcases cell j c u e2 with ⟨f2, _⟩ | ⟨_, f2, _⟩
        · exact h.one i j a c u f1 f2
        · exact absurd f2 d
      · exact absurd f1 d
  · rcases cell i a u e with ⟨f1, _⟩ | ⟨rfl, rfl, f2, f3⟩
    · obtain ⟨q1, q2⟩ := h.at_ i a u f1
      exact ⟨by omega, q2⟩
    · exact ⟨by omega, lo, hi, hr, f2, f3⟩
  · obtain ⟨p1, p2, p3⟩ := lawP_ok L
    obtain ⟨s1, s2, s3⟩ := lawP_ok L'
    obtain ⟨a1, a2, a3⟩ := acted_ok (w := r) (g := nw r) hr.2.2.1 p1 p2.asc (srt_perm (acted lo hi r (nw r) (lawP L))) (srt_le _)
    obtain ⟨f1, f2, f3⟩ := fuse_ok a1 a2
    refine nrm_ext f2 f1 s2 s1 fun k v => ?_
    rw [f3, a3, s3, at' k]
    have h9 := hr.2.2.2
    constructor
    · rintro (⟨q1, q2⟩ | ⟨q1, q2, ⟨u, q3, rfl⟩ | ⟨q3, rfl⟩⟩)
      · obtain ⟨k9, a, e⟩ := (p3 k v).mp q1
        refine ⟨k9, a, ?_⟩
        rw [e]
        show some (upC m r lo hi k (some (a, v))) = _
        unfold upC
        rw [if_neg (by omega)]
      · obtain ⟨k9, a, e⟩ := (p3 k u).mp q3
        refine ⟨k9, ?_⟩
        rw [e]
        show ∃ m', some (upC m r lo hi k (some (a, u))) = _
        unfold upC nw
        rw [if_pos ⟨q1, q2⟩]
        by_cases d : u.ep ≤ r.ep
        · exact ⟨m, by simp [d]⟩
        · exact ⟨a, by simp [d]⟩
      · have k9 : k < 4 := by omega
        refine ⟨k9, m, ?_⟩
        obtain ⟨c, hc⟩ : ∃ c, L[k]? = some c := ⟨L[k]'(by rw [h.len]; exact k9), List.getElem?_eq_getElem (by rw [h.len]; exact k9)⟩
        rw [hc]
        cases c with
        | none =>
          show some (upC m r lo hi k none) = _
          unfold upC nw
          rw [if_pos ⟨q1, q2⟩, if_pos (Int.le_refl _)]
        | some cu =>
          exact absurd ((p3 k cu.2).mpr ⟨k9, cu.1, hc⟩) (q3 cu.2)
    · rintro ⟨k9, a, e⟩
      obtain ⟨c, hc, e⟩ := Option.map_eq_some_iff.mp e
      unfold upC at e
      split at e
      · rename_i ci
        refine .inr ⟨ci.1, ci.2, ?_⟩
        split at e
        · cases e
          refine .inr ⟨fun u z => ?_, ?_⟩
          · obtain ⟨_, m', z⟩ := (p3 k u).mp z
            rw [hc] at z
            cases z
          · unfold nw
            rw [if_pos (Int.le_refl _)]
        · rename_i n0 o
          refine .inl ⟨o, (p3 k o).mpr ⟨k9, n0, hc⟩, ?_⟩
          unfold nw
          split at e
          · rename_i d
            cases e
            rw [if_pos d]
          · rename_i d
            cases e
            rw [if_neg d]
      · rename_i ci
        subst e
        exact .inl ⟨(p3 k v).mpr ⟨k9, a, hc⟩, by omega⟩
theorem hasB_one {S : List (Sp Rep)} {z : Str} (hp : Pos S) (hs : Asc S) (he : ∀ x ∈ S, x.1 < 4 ∧ x.2.1 ≤ 4) {x y : Sp Rep} (hx : x ∈ S) (hy : y ∈ S) (h1 : hasB z x = true) (h2 : hasB z y = true) : ¬ x.2.1 ≤ y.1 := fun c => by
  unfold hasB at h1 h2
  obtain ⟨_, b1⟩ := Bool.and_eq_true_iff.mp h1
  obtain ⟨b2, _⟩ := Bool.and_eq_true_iff.mp h2
  have y9 := (he y hy).1
  have x9 : x.2.1 < 4 := by omega
  rw [bo_lt x9] at b1
  have b1 : sLt z (b9 x.2.1) = true := b1
  have b2 : sLt z (b9 y.1) = false := by
    cases q : sLt z (b9 y.1) with
    | false => rfl
    | true =>
      rw [q] at b2
      cases b2
  by_cases d : x.2.1 = y.1
  · rw [d, b2] at b1
    cases b1
  · have := So.sLt_tr b1 (inc9 x.2.1 y.1 (by omega) y9)
    rw [b2] at this
    cases this
theorem asc_or : ∀ {S : List (Sp Rep)}, Asc S → ∀ x ∈ S, ∀ y ∈ S, x = y ∨ x.2.1 ≤ y.1 ∨ y.2.1 ≤ x.1
  | [], _, _, h, _, _ => by cases h
  | a :: S, hs, x, hx, y, hy => by
    obtain ⟨s1, s2⟩ := List.pairwise_cons.mp hs
    rcases List.mem_cons.mp hx with ex | hx' <;> rcases List.mem_cons.mp hy with ey | hy'
    · exact .inl (ex.trans ey.symm)
    · exact .inr (.inl (by rw [ex]; exact s1 y hy'))
    · exact .inr (.inr (by rw [ey]; exact s1 x hx'))
    · exact asc_or s2 x hx' y hy'
theorem keep_drop {L L' : List Cell} {m : Int} {z : Str} (h : Keep L m) (hD : DoneC (dropC ((lawP L).find? (hasB z))) L L' 4) : Keep L' (m + 1) ∧ (lawP L).filter (fun x => !hasB z x) = lawP L' := by
  have at' := done_at hD h.len
  have cell : ∀ (i : Nat) (a : Int) (u : Rep), L'[i]? = some (some (a, u)) → L[i]? = some (some (a, u)) := fun i a u e => by
    rw [at' i] at e
    obtain ⟨c, hc, e⟩ := Option.map_eq_some_iff.mp e
    unfold dropC at e
    split at e
    · split at e
      · cases e
      · rw [hc, e]
    · rw [hc, e]
  refine ⟨⟨hD.1, fun i j a c u e1 e2 => h.one i j a c u (cell i a u e1) (cell j c u e2), fun i a u e => ?_⟩, ?_⟩
  · obtain ⟨q1, q2⟩ := h.at_ i a u (cell i a u e)
    exact ⟨by omega, q2⟩
  · obtain ⟨p1, p2, p3⟩ := lawP_ok L
    obtain ⟨s1, s2, s3⟩ := lawP_ok L'
    have he := lawP_end L
    refine nrm_ext (p2.sublist List.filter_sublist) (fun x hx => p1 x (List.mem_filter.mp hx).1) s2 s1 fun k v => ?_
    rw [s3, at' k]
    constructor
    · rintro ⟨x, hx, q1, q2, q3⟩
      obtain ⟨hx, hb⟩ := List.mem_filter.mp hx
      obtain ⟨k9, a, e⟩ := (p3 k v).mp ⟨x, hx, q1, q2, q3⟩
      refine ⟨k9, a, ?_⟩
      rw [e]
      show some (dropC _ k (some (a, v))) = _
      unfold dropC
      split
      · rename_i y hf
        have hy := List.mem_of_find?_eq_some hf
        have hyb := List.find?_some hf
        rw [if_neg fun c => ?_]
        rcases asc_or p2.asc x hx y hy with rfl | d | d
        · rw [hyb] at hb
          cases hb
        · omega
        · omega
      · rfl
    · rintro ⟨k9, a, e⟩
      obtain ⟨c, hc, e⟩ := Option.map_eq_some_iff.mp e
      unfold dropC at e
      split at e
      · rename_i y hf
        split at e
        · cases e
        · rename_i ci
          subst e
          obtain ⟨x, hx, q1, q2, q3⟩ := (p3 k v).mpr ⟨k9, a, hc⟩
          refine ⟨x, List.mem_filter.mpr ⟨hx, ?_⟩, q1, q2, q3⟩
          have hy := List.mem_of_find?_eq_some hf
          have hyb := List.find?_some hf
          cases hb : hasB z x with
          | false => rfl
          | true =>
            exfalso
            rcases asc_or p2.asc x hx y hy with rfl | d | d
            · exact ci ⟨q1, q2⟩
            · exact hasB_one p1 p2.asc he hx hy hb hyb d
            · exact hasB_one p1 p2.asc he hy hx hyb hb d
      · rename_i hf
        subst e
        obtain ⟨x, hx, q1, q2, q3⟩ := (p3 k v).mpr ⟨k9, a, hc⟩
        have := List.find?_eq_none.mp hf x hx
        exact ⟨x, List.mem_filter.mpr ⟨hx, by simpa using this⟩, q1, q2, q3⟩
end
end C4
end Q
namespace Q
open PySem L2
local macro_rules | `(tactic| walk_at "mu") => `(tactic| (repeat (first | exact mset_same | assumption | (rw [mset_ne]; rotate_left; (first | assumption | exact Ne.symm (by assumption))))))
local macro_rules | `(tactic| walk_at "lk") => `(tactic| (repeat (first | exact lk_hit | exact lk_nil | refine lk_skip (by decide +kernel) ?_)))
local macro_rules | `(tactic| walk_at "q") => `(tactic| ((with_reducible conv => whnf); repeat (first
  | (with_reducible refine q_t (by assumption) ?_; with_reducible conv => whnf)
  | (with_reducible refine q_f (by assumption) ?_; with_reducible conv => whnf)
  | (with_reducible refine q_t (by with_reducible rfl) ?_; with_reducible conv => whnf)
  | (with_reducible refine q_f (by with_reducible rfl) ?_; with_reducible conv => whnf)
  | (with_reducible refine q_t (by decide) ?_; with_reducible conv => whnf)
  | (with_reducible refine q_f (by decide) ?_; with_reducible conv => whnf)
  | (with_reducible refine q_t (decide_eq_true (by omega)) ?_; with_reducible conv => whnf)
  | (with_reducible refine q_f (decide_eq_false (by omega)) ?_; with_reducible conv => whnf)
  | (with_reducible refine q_f (q_nn (by omega)) ?_; with_reducible conv => whnf)
  | (with_reducible refine q_t (q_nt (by omega)) ?_; with_reducible conv => whnf)
  | (with_reducible refine q_len (by with_unfolding_all rfl) ?_; with_reducible conv => whnf)
  | (with_reducible refine q_leq (by with_unfolding_all rfl) ?_; with_reducible conv => whnf)
  | (with_reducible refine q_and (by first | assumption | exact True.intro | omega | (simp only [List.length_map, List.length_append, List.length_cons, List.length_nil]; omega) | decide) ?_; with_reducible conv => whnf)
  | (with_reducible refine q_le (by with_unfolding_all rfl) ?_; with_reducible conv => whnf)
  | (with_reducible refine q_and tyL_lst ?_; with_reducible conv => whnf)
  | (with_reducible refine q_and tyL_rol ?_; with_reducible conv => whnf)
  | (with_reducible refine q_and (tyL_ref (by walk_at "mu")) ?_; with_reducible conv => whnf)
  | (with_reducible refine q_and (tyD_ref (by walk_at "mu")) ?_; with_reducible conv => whnf)
  | (with_reducible refine q_and (rdD_ref (by walk_at "mu")) ?_; with_reducible conv => whnf)
  | (rw [pick_c0]; with_reducible conv => whnf)
  | (rw [pick_c1]; with_reducible conv => whnf)
  | (rw [pick_c2]; with_reducible conv => whnf)
  | (rw [pick_c3]; with_reducible conv => whnf)
  | (rw [pick_c4]; with_reducible conv => whnf)
  | (rw [pick_c5]; with_reducible conv => whnf)
  | (rw [mset_same]; with_reducible conv => whnf)
  | (rw [mset_ne (by assumption)]; with_reducible conv => whnf)
  | (rw [mset_ne]; rotate_left; (first | assumption | exact Ne.symm (by assumption)); with_reducible conv => whnf)
  | (rw [rdL_ref]; rotate_left; (focus (walk_at "mu"; done)); with_reducible conv => whnf)
  | (rw [rdL_refD]; rotate_left; (focus (walk_at "mu"; done)); with_reducible conv => whnf)
  | (rw [rdD_refD]; rotate_left; (focus (walk_at "mu"; done)); with_reducible conv => whnf)
  | (rw [rdM_ref]; rotate_left; (focus (walk_at "mu"; done)); with_reducible conv => whnf)
  | (rw [rdL_refK]; rotate_left; (focus (walk_at "mu"; done)); with_reducible conv => whnf)
  | (rw [rdD_refK]; rotate_left; (focus (walk_at "mu"; done)); with_reducible conv => whnf)
  | (rw [tyW_refL]; rotate_left; (focus (walk_at "mu"; done)); with_reducible conv => whnf)
  | (rw [tyW_refD]; rotate_left; (focus (walk_at "mu"; done)); with_reducible conv => whnf)
  | (rw [drf_ref]; rotate_left; (focus (walk_at "mu"; done)); with_reducible conv => whnf)
  | ((conv => (arg 2; tactic' => (walk_at "mu"; done))); with_reducible conv => whnf)
  | (with_reducible refine q_and (Eq.refl _) ?_; with_reducible conv => whnf)
  | (with_reducible refine q_and (MulO.r (by decide)) ?_; with_reducible conv => whnf)
  | (with_reducible refine q_and (MulO.l (by decide)) ?_; with_reducible conv => whnf)
  | (with_reducible refine q_and (MulO.r (by omega)) ?_; with_reducible conv => whnf)
  | (with_reducible refine q_and (MulO.l (by omega)) ?_; with_reducible conv => whnf)
  | (with_reducible refine q_pow (by decide) ?_; with_reducible conv => whnf)
  | (with_reducible refine q_nisT (by first | assumption | with_reducible rfl) ?_; with_reducible conv => whnf)
  | (with_reducible refine q_nisF (by first | assumption | with_reducible rfl) ?_; with_reducible conv => whnf)
  | (with_reducible refine q_eqI ?_; with_reducible conv => whnf)
  | (with_reducible refine q_eqS ?_; with_reducible conv => whnf)
  | (with_reducible refine q_eqB ?_; with_reducible conv => whnf)
  | (with_reducible refine q_neI ?_; with_reducible conv => whnf)
  | (with_reducible refine q_neS ?_; with_reducible conv => whnf)
  | (with_reducible refine q_neB ?_; with_reducible conv => whnf)
  | (with_reducible refine q_memc ?_; with_reducible conv => whnf)
  | (with_reducible refine q_lkn (by walk_at "lk") ?_; with_reducible conv => whnf)
  | (with_reducible refine q_tix (by walk_at "lk"; done) ?_; with_reducible conv => whnf)
  | (with_reducible refine q_tin ?_; with_reducible conv => whnf)
  | (rw [pf_hit]; with_reducible conv => whnf)
  | (rw [pf_skip]; rotate_left; (focus (decide +kernel; done)); with_reducible conv => whnf)
  | (rw [lk_hit]; with_reducible conv => whnf)
  | (rw [lk_skip1]; rotate_left; (focus (decide +kernel; done)); with_reducible conv => whnf))))
/-! clients that are none: what the law draws -/
theorem pick_in {l : List W} {i : Int} (h0 : 0 ≤ i) (h : i < l.length) : ∃ w, pick l i = some w ∧ w ∈ l := by
  have hk : i.toNat < l.length := by omega
  exact ⟨l[i.toNat], pick_nat h0 (List.getElem?_eq_getElem hk), List.getElem_mem hk⟩
theorem sp__law_cell_2 {ns : List Int} {k : Nat} {μ : Mu} {P : Po} {X : Xo} (h : ∀ i, P (.int i) μ) : f__law_cell_2 [.rol (ns.map W.int), .int k] μ P X := by
  rw [f__law_cell_2_eq]; unfold f__law_cell_2_B fDef
  refine ⟨rfl, ?_⟩
  walk_at "q"
  refine q_ifP (fun c => ?_) fun c => ?_
  · have hk : k < ns.length := by
      rw [List.length_map] at c
      omega
    have gp : pick (ns.map W.int) (k : Int) = some (.int ns[k]) := pick_mapN (List.getElem?_eq_getElem hk)
    walk_at "q"
    exact Rt.now (h _)
  · walk_at "q"
    exact Rt.now (h _)
theorem sp__law_rich {c k : Int} {μ : Mu} {P : Po} {X : Xo} (h : ∀ r : Int, P (.int r) μ) : f__law_rich [.int c, .int k] μ P X := by
  rw [f__law_rich_eq]; unfold f__law_rich_B fDef
  refine ⟨rfl, ?_⟩
  walk_at "q"
  refine q_if (fun c1 => ?_) fun c1 => ?_
  · walk_at "q"
    exact Rt.now (h _)
  · walk_at "q"
    exact Rt.now (h _)
theorem pick_str {l : List Str} {i : Int} (h0 : 0 ≤ i) (h : i < l.length) : ∃ z ∈ l, pick (l.map W.str) i = some (.str z) := by
  obtain ⟨w, h1, h2⟩ := pick_in (l := l.map W.str) h0 (by rw [List.length_map]; exact h)
  obtain ⟨j, h3, rfl⟩ := List.mem_map.mp h2
  exact ⟨j, h3, h1⟩
/-- scalars -/
def sc : W → Bool
  | .non | .bl _ | .int _ => true
  | .str z => decide (z.length ≤ 100)
  | _ => false
end Q
namespace Q
open PySem L2
local macro_rules | `(tactic| walk_at "mu") => `(tactic| (repeat (first | exact mset_same | assumption | (rw [mset_ne]; rotate_left; (first | assumption | exact Ne.symm (by assumption))))))
local macro_rules | `(tactic| walk_at "lk") => `(tactic| (repeat (first | exact lk_hit | exact lk_nil | refine lk_skip (by decide +kernel) ?_)))
local macro_rules | `(tactic| walk_at "pf") => `(tactic| (repeat (first | rw [pf_nil] | rw [pf_hit] | (rw [pf_skip]; rotate_left; (focus (decide +kernel; done))))))
local macro_rules | `(tactic| walk_at "q") => `(tactic| ((with_reducible conv => whnf); repeat (first
  | (with_reducible refine q_t (by assumption) ?_; with_reducible conv => whnf)
  | (with_reducible refine q_f (by assumption) ?_; with_reducible conv => whnf)
  | (with_reducible refine q_t (by with_reducible rfl) ?_; with_reducible conv => whnf)
  | (with_reducible refine q_f (by with_reducible rfl) ?_; with_reducible conv => whnf)
  | (with_reducible refine q_t (by decide) ?_; with_reducible conv => whnf)
  | (with_reducible refine q_f (by decide) ?_; with_reducible conv => whnf)
  | (with_reducible refine q_t (decide_eq_true (by omega)) ?_; with_reducible conv => whnf)
  | (with_reducible refine q_f (decide_eq_false (by omega)) ?_; with_reducible conv => whnf)
  | (with_reducible refine q_f (q_nn (by omega)) ?_; with_reducible conv => whnf)
  | (with_reducible refine q_t (q_nt (by omega)) ?_; with_reducible conv => whnf)
  | (with_reducible refine q_len (by with_unfolding_all rfl) ?_; with_reducible conv => whnf)
  | (with_reducible refine q_leq (by with_unfolding_all rfl) ?_; with_reducible conv => whnf)
  | (with_reducible refine q_and (by first | assumption | exact True.intro | omega | (simp only [List.length_map, List.length_append, List.length_cons, List.length_nil]; omega) | decide) ?_; with_reducible conv => whnf)
  | (with_reducible refine q_le (by with_unfolding_all rfl) ?_; with_reducible conv => whnf)
  | (with_reducible refine q_and tyL_lst ?_; with_reducible conv => whnf)
  | (with_reducible refine q_and tyL_rol ?_; with_reducible conv => whnf)
  | (with_reducible refine q_and (tyL_ref (by walk_at "mu")) ?_; with_reducible conv => whnf)
  | (with_reducible refine q_and (tyD_ref (by walk_at "mu")) ?_; with_reducible conv => whnf)
  | (with_reducible refine q_and (rdD_ref (by walk_at "mu")) ?_; with_reducible conv => whnf)
  | (rw [pick_c0]; with_reducible conv => whnf)
  | (rw [pick_c1]; with_reducible conv => whnf)
  | (rw [pick_c2]; with_reducible conv => whnf)
  | (rw [pick_c3]; with_reducible conv => whnf)
  | (rw [pick_c4]; with_reducible conv => whnf)
  | (rw [pick_c5]; with_reducible conv => whnf)
  | (rw [mset_same]; with_reducible conv => whnf)
  | (rw [mset_ne (by assumption)]; with_reducible conv => whnf)
  | (rw [mset_ne]; rotate_left; (first | assumption | exact Ne.symm (by assumption)); with_reducible conv => whnf)
  | (rw [rdL_ref]; rotate_left; (focus (walk_at "mu"; done)); with_reducible conv => whnf)
  | (rw [rdL_refD]; rotate_left; (focus (walk_at "mu"; done)); with_reducible conv => whnf)
  | (rw [rdD_refD]; rotate_left; (focus (walk_at "mu"; done)); with_reducible conv => whnf)
  | (rw [rdM_ref]; rotate_left; (focus (walk_at "mu"; done)); with_reducible conv => whnf)
  | (rw [rdL_refK]; rotate_left; (focus (walk_at "mu"; done)); with_reducible conv => whnf)
  | (rw [rdD_refK]; rotate_left; (focus (walk_at "mu"; done)); with_reducible conv => whnf)
  | (rw [tyW_refL]; rotate_left; (focus (walk_at "mu"; done)); with_reducible conv => whnf)
  | (rw [tyW_refD]; rotate_left; (focus (walk_at "mu"; done)); with_reducible conv => whnf)
  | (rw [drf_ref]; rotate_left; (focus (walk_at "mu"; done)); with_reducible conv => whnf)
  | ((conv => (arg 2; tactic' => (walk_at "mu"; done))); with_reducible conv => whnf)
  | (with_reducible refine q_and (Eq.refl _) ?_; with_reducible conv => whnf)
  | (with_reducible refine q_and (MulO.r (by decide)) ?_; with_reducible conv => whnf)
  | (with_reducible refine q_and (MulO.l (by decide)) ?_; with_reducible conv => whnf)
  | (with_reducible refine q_and (MulO.r (by omega)) ?_; with_reducible conv => whnf)
  | (with_reducible refine q_and (MulO.l (by omega)) ?_; with_reducible conv => whnf)
  | (with_reducible refine q_pow (by decide) ?_; with_reducible conv => whnf)
  | (with_reducible refine q_nisT (by first | assumption | with_reducible rfl) ?_; with_reducible conv => whnf)
  | (with_reducible refine q_nisF (by first | assumption | with_reducible rfl) ?_; with_reducible conv => whnf)
  | (with_reducible refine q_eqI ?_; with_reducible conv => whnf)
  | (with_reducible refine q_eqS ?_; with_reducible conv => whnf)
  | (with_reducible refine q_eqB ?_; with_reducible conv => whnf)
  | (with_reducible refine q_neI ?_; with_reducible conv => whnf)
  | (with_reducible refine q_neS ?_; with_reducible conv => whnf)
  | (with_reducible refine q_neB ?_; with_reducible conv => whnf)
  | (with_reducible refine q_memc ?_; with_reducible conv => whnf)
  | (with_reducible refine q_lkn (by walk_at "lk") ?_; with_reducible conv => whnf)
  | (with_reducible refine q_tix (by walk_at "lk"; done) ?_; with_reducible conv => whnf)
  | (with_reducible refine q_tin ?_; with_reducible conv => whnf)
  | (rw [pf_hit]; with_reducible conv => whnf)
  | (rw [pf_skip]; rotate_left; (focus (decide +kernel; done)); with_reducible conv => whnf)
  | (rw [lk_hit]; with_reducible conv => whnf)
  | (rw [lk_skip1]; rotate_left; (focus (decide +kernel; done)); with_reducible conv => whnf))))
/-! what the laws draw: keys, values, operations -/
section
variable {μ : Mu} {P : Po} {X : Xo}
theorem sp_wordC {n : Nat} {z : Str} {i : Int} (hn : n ≤ 100) (h0 : 0 < z.length) (hz : z.length ≤ 1000) (h : ∀ x : Str, x.length = n → (∀ c ∈ x.cps.toList, c ∈ z.cps.toList) → P (.str x) μ) : f__law_word [.int n, .str z, .int i] μ P X := by
  rw [f__law_word_eq]; unfold f__law_word_B fDef
  refine ⟨rfl, ?_⟩
  walk_at "q"
  rw [Int.toNat_natCast]
  refine itS_nums (fun k ρ μ' => μ' = μ ∧ ∃ (x : Str) (j : Int) (x5 : Option W), x.length = k ∧ (∀ c ∈ x.cps.toList, c ∈ z.cps.toList) ∧ ρ = [some (.int n), some (.str z), some (.int i), some (.str x), some (.int j), x5]) ⟨rfl, "", i, none, rfl, (by intro c hc; cases hc), rfl⟩ (by intros; trivial) ?_ ?_
  · rintro k hk ρ μ' ⟨rfl, x, j, x5, hx, hc, rfl⟩ K hK
    have h1 : 0 ≤ j % (z.length : Int) := Int.emod_nonneg _ (by omega)
    have h2 : j % (z.length : Int) < (z.length : Int) := Int.emod_lt_of_pos _ (by omega)
    have hk2 : (j % (z.length : Int)).toNat < z.cps.toList.length := by
      have : z.cps.toList.length = z.length := rfl
      omega
    have gp : pick z.cps.toList (j % (z.length : Int)) = some z.cps.toList[(j % (z.length : Int)).toNat] := pick_nat h1 (List.getElem?_eq_getElem hk2)
    have hz2 : z.length ≤ 16000000 := by omega
    have gm : z.cps.toList[(j % (z.length : Int)).toNat] ∈ z.cps.toList := List.getElem_mem hk2
    revert gp gm
    generalize z.cps.toList[(j % (z.length : Int)).toNat] = c
    intro gp gm
    have hxl : x.length + (⟨#[c]⟩ : Str).length ≤ 16000000 := by
      show x.length + 1 ≤ _
      omega
    have hd1 : 0 < (z.length : Int) ∧ (z.length : Int) < 1073741824 := by omega
    walk_at "q"
    refine hK _ _ ⟨rfl, x ++ ⟨#[c]⟩, _, _, ?_, fun d hd => ?_, rfl⟩
    · show (x.cps ++ #[c]).size = _
      rw [Array.size_append]
      exact congrArg (· + 1) hx
    · have hd : d ∈ (x.cps ++ #[c]).toList := hd
      rw [Array.toList_append] at hd
      rcases List.mem_append.mp hd with q | q
      · exact hc d q
      · rw [List.mem_singleton.mp q]
        exact gm
  · rintro ρ μ' ⟨rfl, x, j, x5, hx, hc, rfl⟩
    walk_at "q"
    exact Rt.now (h x hx hc)
theorem sp_keyC {i : Int} (h : ∀ x : Str, isKeyB x = true → P (.str x) μ) : f__law_key [.int i] μ P X := by
  rw [f__law_key_eq]; unfold f__law_key_B fDef
  refine ⟨rfl, ?_⟩
  obtain ⟨z, hz, hj⟩ := pick_str (l := ["a", "b", "c", "d", "k", "m", "kk", "z"]) (i := i / 4 % 8) (by omega) (by show i / 4 % 8 < 8; omega)
  have hl : ∀ x ∈ (["a", "b", "c", "d", "k", "m", "kk", "z"] : List Str), isKeyB x = true := by decide +kernel
  walk_at "q"
  refine q_ifP (fun c => ?_) fun c => ?_
  · walk_at "q"
    exact Rt.now (h z (hl z hz))
  · obtain ⟨n, hn, hn1, hn2⟩ : ∃ n : Nat, 1 + i / 4 % 8 = (n : Int) ∧ 1 ≤ n ∧ n ≤ 8 := ⟨(1 + i / 4 % 8).toNat, by omega, by omega, by omega⟩
    walk_at "q"
    rw [hn]
    refine sp_wordC (by omega) (by decide +kernel) (by decide +kernel) fun x hx hc => ?_
    refine Rt.now (h x ?_)
    unfold isKeyB
    rw [decide_eq_true (show 1 ≤ x.length ∧ x.length ≤ 8 by omega), Bool.true_and, List.all_eq_true]
    intro c hcx
    have hm := hc c hcx
    have key : ∀ c ∈ ("abcdefghijklmnopqrstuvwxyz" : Str).cps.toList, decide (97 ≤ c ∧ c ≤ 122) = true := by decide +kernel
    exact key c hm
theorem sp_boundC {i : Int} (h : ∀ x : Str, (isKeyB x || decide (x = "")) = true → P (.str x) μ) : f__law_bound [.int i] μ P X := by
  rw [f__law_bound_eq]; unfold f__law_bound_B fDef
  refine ⟨rfl, ?_⟩
  walk_at "q"
  refine q_ifP (fun c => ?_) fun c => ?_
  · walk_at "q"
    exact Rt.now (h _ (by decide +kernel))
  · walk_at "q"
    refine sp_keyC fun x hx => ?_
    exact Rt.now (h x (by rw [hx]; rfl))
theorem sp_valueC {i : Int} (h : ∀ x : Str, valS x = true → P (.str x) μ) : f__law_value [.int i] μ P X := by
  rw [f__law_value_eq]; unfold f__law_value_B fDef
  refine ⟨rfl, ?_⟩
  obtain ⟨z, hz, hj⟩ := pick_str (l := ["x", "y", ""]) (i := i / 4 % 3) (by omega) (by show i / 4 % 3 < 3; omega)
  have hl : ∀ x ∈ (["x", "y", ""] : List Str), valS x = true := by decide +kernel
  walk_at "q"
  refine q_ifP (fun c => ?_) fun c => ?_
  · walk_at "q"
    exact Rt.now (h z (hl z hz))
  · obtain ⟨n, hn, hn2⟩ : ∃ n : Nat, i / 4 % 41 = (n : Int) ∧ n ≤ 40 := ⟨(i / 4 % 41).toNat, by omega, by omega⟩
    walk_at "q"
    rw [hn]
    refine sp_wordC (by omega) (by decide +kernel) (by decide +kernel) fun x hx hc => ?_
    refine Rt.now (h x ?_)
    unfold valS printB
    rw [decide_eq_true (show x.length ≤ 40 by omega), Bool.and_true, List.all_eq_true]
    intro c hcx
    have hm := hc c hcx
    have key : ∀ c ∈ (" !\"#$&'()*+,-./0123456789:;<=>?@ABCDEFGHIJKLMNOPQRSTUVWXYZ[\\]^_`abcdefghijklmnopqrstuvwxyz{|}~" : Str).cps.toList, signB c = true := by decide +kernel
    exact key c hm
theorem sp_opC {i : Int} (h : ∀ op : Op, op.Ok → P op.w μ) : f__law_operation [.int i] μ P X := by
  rw [f__law_operation_eq]; unfold f__law_operation_B fDef
  refine ⟨rfl, ?_⟩
  obtain ⟨z, hz, hj⟩ := pick_str (l := ["get", "put", "drop", "swap", "page", "put"]) (i := i % 6) (by omega) (by show i % 6 < 6; omega)
  have hz2 : z = "get" ∨ z = "put" ∨ z = "drop" ∨ z = "swap" ∨ z = "page" := by
    simp only [List.mem_cons, List.not_mem_nil, or_false] at hz
    rcases hz with e | e | e | e | e | e <;> simp [e]
  rcases hz2 with rfl | rfl | rfl | rfl | rfl
  · walk_at "q"
    refine sp_keyC fun x hx => ?_
    walk_at "q"
    exact Rt.now (h (.get x) hx)
  · walk_at "q"
    refine sp_keyC fun x hx => ?_
    walk_at "q"
    refine sp_valueC fun y hy => ?_
    walk_at "q"
    exact Rt.now (h (.put x y) ⟨hx, hy⟩)
  · walk_at "q"
    refine sp_keyC fun x hx => ?_
    walk_at "q"
    exact Rt.now (h (.drop x) hx)
  · walk_at "q"
    refine sp_keyC fun x hx => ?_
    walk_at "q"
    refine sp_valueC fun y hy => ?_
    walk_at "q"
    refine sp_valueC fun u hu => ?_
    walk_at "q"
    exact Rt.now (h (.swap x y u) ⟨hx, hy, hu⟩)
  · have fin : ∀ (m : Int) (N : En) (y : Option W), 1 ≤ m → m ≤ 50 → (N.rt = fun w μ1 => Rt P w μ1) → sRt (eTup (aCons (eV 1) (aCons (eCall f__law_bound (aCons (eV 2) (aNil))) (aCons (eV 4) (aNil))))) [some (.int i), some (.str "page"), some (.int (i / 6)), y, some (.int m)] μ N := fun m N y m1 m2 hN => by
      walk_at "q"
      refine sp_boundC fun x hx => ?_
      walk_at "q"
      show N.rt _ _
      rw [hN]
      obtain ⟨k, hk⟩ : ∃ k : Nat, m = (k : Int) := ⟨m.toNat, by omega⟩
      have := h (.page x k) ⟨hx, by omega, by omega⟩
      rw [hk]
      exact Rt.now this
    walk_at "q"
    refine q_go ?_
    walk_at "q"
    refine q_ifP (fun c2 => ?_) fun c2 => ?_
    · walk_at "q"
      exact fin _ _ _ (by omega) (by omega) rfl
    · walk_at "q"
      exact fin _ _ _ (by omega) (by omega) rfl
end
end Q
namespace Q
open PySem L2
local macro_rules | `(tactic| walk_at "mu") => `(tactic| (repeat (first | exact mset_same | assumption | (rw [mset_ne]; rotate_left; (first | assumption | exact Ne.symm (by assumption))))))
local macro_rules | `(tactic| walk_at "lk") => `(tactic| (repeat (first | exact lk_hit | exact lk_nil | refine lk_skip (by decide +kernel) ?_)))
local macro_rules | `(tactic| walk_at "pf") => `(tactic| (repeat (first | rw [pf_nil] | rw [pf_hit] | (rw [pf_skip]; rotate_left; (focus (decide +kernel; done))))))
local macro_rules | `(tactic| walk_at "q") => `(tactic| ((with_reducible conv => whnf); repeat (first
  | (with_reducible refine q_t (by assumption) ?_; with_reducible conv => whnf)
  | (with_reducible refine q_f (by assumption) ?_; with_reducible conv => whnf)
  | (with_reducible refine q_t (by with_reducible rfl) ?_; with_reducible conv => whnf)
  | (with_reducible refine q_f (by with_reducible rfl) ?_; with_reducible conv => whnf)
  | (with_reducible refine q_t (by decide) ?_; with_reducible conv => whnf)
  | (with_reducible refine q_f (by decide) ?_; with_reducible conv => whnf)
  | (with_reducible refine q_t (decide_eq_true (by omega)) ?_; with_reducible conv => whnf)
  | (with_reducible refine q_f (decide_eq_false (by omega)) ?_; with_reducible conv => whnf)
  | (with_reducible refine q_f (q_nn (by omega)) ?_; with_reducible conv => whnf)
  | (with_reducible refine q_t (q_nt (by omega)) ?_; with_reducible conv => whnf)
  | (with_reducible refine q_len (by with_unfolding_all rfl) ?_; with_reducible conv => whnf)
  | (with_reducible refine q_leq (by with_unfolding_all rfl) ?_; with_reducible conv => whnf)
  | (with_reducible refine q_and (by first | assumption | exact True.intro | omega | (simp only [List.length_map, List.length_append, List.length_cons, List.length_nil]; omega) | decide) ?_; with_reducible conv => whnf)
  | (with_reducible refine q_le (by with_unfolding_all rfl) ?_; with_reducible conv => whnf)
  | (with_reducible refine q_and tyL_lst ?_; with_reducible conv => whnf)
  | (with_reducible refine q_and tyL_rol ?_; with_reducible conv => whnf)
  | (with_reducible refine q_and (tyL_ref (by walk_at "mu")) ?_; with_reducible conv => whnf)
  | (with_reducible refine q_and (tyD_ref (by walk_at "mu")) ?_; with_reducible conv => whnf)
  | (with_reducible refine q_and (rdD_ref (by walk_at "mu")) ?_; with_reducible conv => whnf)
  | (rw [pick_c0]; with_reducible conv => whnf)
  | (rw [pick_c1]; with_reducible conv => whnf)
  | (rw [pick_c2]; with_reducible conv => whnf)
  | (rw [pick_c3]; with_reducible conv => whnf)
  | (rw [pick_c4]; with_reducible conv => whnf)
  | (rw [pick_c5]; with_reducible conv => whnf)
  | (rw [mset_same]; with_reducible conv => whnf)
  | (rw [mset_ne (by assumption)]; with_reducible conv => whnf)
  | (rw [mset_ne]; rotate_left; (first | assumption | exact Ne.symm (by assumption)); with_reducible conv => whnf)
  | (rw [rdL_ref]; rotate_left; (focus (walk_at "mu"; done)); with_reducible conv => whnf)
  | (rw [rdL_refD]; rotate_left; (focus (walk_at "mu"; done)); with_reducible conv => whnf)
  | (rw [rdD_refD]; rotate_left; (focus (walk_at "mu"; done)); with_reducible conv => whnf)
  | (rw [rdM_ref]; rotate_left; (focus (walk_at "mu"; done)); with_reducible conv => whnf)
  | (rw [rdL_refK]; rotate_left; (focus (walk_at "mu"; done)); with_reducible conv => whnf)
  | (rw [rdD_refK]; rotate_left; (focus (walk_at "mu"; done)); with_reducible conv => whnf)
  | (rw [tyW_refL]; rotate_left; (focus (walk_at "mu"; done)); with_reducible conv => whnf)
  | (rw [tyW_refD]; rotate_left; (focus (walk_at "mu"; done)); with_reducible conv => whnf)
  | (rw [drf_ref]; rotate_left; (focus (walk_at "mu"; done)); with_reducible conv => whnf)
  | ((conv => (arg 2; tactic' => (walk_at "mu"; done))); with_reducible conv => whnf)
  | (with_reducible refine q_and (Eq.refl _) ?_; with_reducible conv => whnf)
  | (with_reducible refine q_and (MulO.r (by decide)) ?_; with_reducible conv => whnf)
  | (with_reducible refine q_and (MulO.l (by decide)) ?_; with_reducible conv => whnf)
  | (with_reducible refine q_and (MulO.r (by omega)) ?_; with_reducible conv => whnf)
  | (with_reducible refine q_and (MulO.l (by omega)) ?_; with_reducible conv => whnf)
  | (with_reducible refine q_pow (by decide) ?_; with_reducible conv => whnf)
  | (with_reducible refine q_nisT (by first | assumption | with_reducible rfl) ?_; with_reducible conv => whnf)
  | (with_reducible refine q_nisF (by first | assumption | with_reducible rfl) ?_; with_reducible conv => whnf)
  | (with_reducible refine q_eqI ?_; with_reducible conv => whnf)
  | (with_reducible refine q_eqS ?_; with_reducible conv => whnf)
  | (with_reducible refine q_eqB ?_; with_reducible conv => whnf)
  | (with_reducible refine q_neI ?_; with_reducible conv => whnf)
  | (with_reducible refine q_neS ?_; with_reducible conv => whnf)
  | (with_reducible refine q_neB ?_; with_reducible conv => whnf)
  | (with_reducible refine q_memc ?_; with_reducible conv => whnf)
  | (with_reducible refine q_lkn (by walk_at "lk") ?_; with_reducible conv => whnf)
  | (with_reducible refine q_tix (by walk_at "lk"; done) ?_; with_reducible conv => whnf)
  | (with_reducible refine q_tin ?_; with_reducible conv => whnf)
  | (rw [pf_hit]; with_reducible conv => whnf)
  | (rw [pf_skip]; rotate_left; (focus (decide +kernel; done)); with_reducible conv => whnf)
  | (rw [lk_hit]; with_reducible conv => whnf)
  | (rw [lk_skip1]; rotate_left; (focus (decide +kernel; done)); with_reducible conv => whnf))))
/-! the client's own defs -/
namespace C4
section
open Mspan
theorem op_sh (op : Op) : ∃ k r, op.w = .tup (.str k :: .str op.place :: r) := by
  cases op with
  | get k => exact ⟨"get", [], rfl⟩
  | put k v => exact ⟨"put", [.str v], rfl⟩
  | drop k => exact ⟨"drop", [], rfl⟩
  | swap k o n => exact ⟨"swap", [.str o, .str n], rfl⟩
  | page b m => exact ⟨"page", [.int (m : Int)], rfl⟩
theorem slt_nil4 (x : Str) : sLt x "" = false := by
  unfold sLt
  exact decide_eq_false (by
    show ¬x.cps.toList < []
    exact List.not_lt_nil _)
/-- the part in which a place lies -/
def part (z : Str) : Nat := ((["d", "k", "m"] : List Str).filter fun c => !sLt z c).length
theorem part_lt (z : Str) : part z < 4 := Nat.lt_succ_of_le (List.length_filter_le _ _)
theorem slt_part (z : Str) {k : Nat} (hk : k < 4) : sLt z (b9 k) = decide (part z < k) := by
  have m1 : sLt z "d" = true → sLt z "k" = true := fun h => So.sLt_tr h (by decide +kernel)
  have m2 : sLt z "k" = true → sLt z "m" = true := fun h => So.sLt_tr h (by decide +kernel)
  unfold part
  simp only [List.filter_cons, List.filter_nil]
  have : k = 0 ∨ k = 1 ∨ k = 2 ∨ k = 3 := by omega
  rcases this with rfl | rfl | rfl | rfl
  · rw [show b9 0 = "" from rfl, slt_nil4]
    rfl
  · rw [show b9 1 = "d" from rfl]
    cases c1 : sLt z "d" <;> cases c2 : sLt z "k" <;> cases c3 : sLt z "m" <;> first | rfl | (exact absurd (m1 c1) (by rw [c2]; decide)) | (exact absurd (m2 c2) (by rw [c3]; decide))
  · rw [show b9 2 = "k" from rfl]
    cases c1 : sLt z "d" <;> cases c2 : sLt z "k" <;> cases c3 : sLt z "m" <;> first | rfl | (exact absurd (m1 c1) (by rw [c2]; decide)) | (exact absurd (m2 c2) (by rw [c3]; decide))
  · rw [show b9 3 = "m" from rfl]
    cases c1 : sLt z "d" <;> cases c2 : sLt z "k" <;> cases c3 : sLt z "m" <;> first | rfl | (exact absurd (m1 c1) (by rw [c2]; decide)) | (exact absurd (m2 c2) (by rw [c3]; decide))
theorem hasB_part {s e : Nat} {v : Rep} {z : Str} (hs : s < 4) (he : e ≤ 4) : hasB z (s, e, v) = decide (s ≤ part z ∧ part z < e) := by
  unfold hasB
  simp only
  have pl := part_lt z
  rw [slt_part z hs]
  have eb : belowB z (bo b9 4 e) = decide (part z < e) := by
    by_cases d : e < 4
    · rw [bo_lt d]
      exact slt_part z d
    · have : e = 4 := by omega
      subst this
      rw [bo_n, decide_eq_true pl]
      rfl
  rw [eb]
  by_cases c : s ≤ part z
  · rw [decide_eq_false (show ¬ part z < s by omega)]
    simp [c]
  · rw [decide_eq_true (show part z < s by omega)]
    simp [c]
theorem find_part {L : List Cell} {z : Str} {m : Int} {r : Rep} (h : L[part z]? = some (some (m, r))) : ∃ s e, (lawP L).find? (hasB z) = some (s, e, r) ∧ s ≤ part z ∧ part z < e ∧ (s, e, r) ∈ lawP L := by
  have hp := lawP_end L
  cases c : (lawP L).find? (hasB z) with
  | none =>
    obtain ⟨x, hx, q1, q2, q3⟩ := ((lawP_ok L).2.2 (part z) r).mpr ⟨part_lt z, m, h⟩
    have := List.find?_eq_none.mp c x hx
    obtain ⟨s, e, v⟩ := x
    rw [hasB_part (hp _ hx).1 (hp _ hx).2] at this
    exact absurd (decide_eq_true ⟨q1, q2⟩) this
  | some x =>
    obtain ⟨s, e, v⟩ := x
    have hx := List.mem_of_find?_eq_some c
    have hb := List.find?_some c
    rw [hasB_part (hp _ hx).1 (hp _ hx).2] at hb
    have hb := of_decide_eq_true hb
    obtain ⟨_, m', e'⟩ := ((lawP_ok L).2.2 (part z) v).mp ⟨_, hx, hb.1, hb.2, rfl⟩
    rw [h] at e'
    cases e'
    exact ⟨s, e, rfl, hb.1, hb.2, hx⟩
theorem find_part0 {L : List Cell} {z : Str} (h : L[part z]? = some none) : (lawP L).find? (hasB z) = none := by
  have hp := lawP_end L
  refine List.find?_eq_none.mpr fun x hx q => ?_
  obtain ⟨s, e, v⟩ := x
  rw [hasB_part (hp _ hx).1 (hp _ hx).2] at q
  have q := of_decide_eq_true q
  obtain ⟨_, m', e'⟩ := ((lawP_ok L).2.2 (part z) v).mp ⟨_, hx, q.1, q.2, rfl⟩
  rw [h] at e'
  cases e'
/-- the client -/
def cliO (n : Nat) (R o ac : Addr) : O := .ins "Client" [("_name", .int (-5)), ("_count", .int (n : Int)), ("_routes", .ref R), ("_ops", .ref o), ("_accepted", .ref ac)]
structure Cl (μ : Mu) (C R a o ac : Addr) (n : Nat) (L : List Cell) (qs : List Op) (rows : List W) : Prop where
  c : μ C = some (cliO n R o ac)
  r : μ R = some (insR a)
  p : μ a = some (.ls ((lawP L).map enR))
  o : μ o = some (.ls (qs.map Op.w))
  k : μ ac = some (.ls rows)
def pendW (qs : List Op) (rows : List W) : W := match qs[rows.length]? with
  | some op => .tup [.int ((rows.length : Int) + 1), op.w]
  | none => .non
def dueL (L : List Cell) (qs : List Op) (rows : List W) : List W := match qs[rows.length]? with
  | some op => (match L[part op.place]? with
    | some (some (_, r)) => [.tup [.int r.x, .tup [.str "ask", .int ((rows.length : Int) + 1), op.w]]]
    | _ => [.tup [.int 1000, .tup [.str "where", .str op.place]]])
  | none => []
section
variable {μ : Mu} {P : Po} {X : Xo} {C R a o ac : Addr} {n : Nat} {L : List Cell} {qs : List Op} {rows : List W}
theorem sp_pending (h : Cl μ C R a o ac n L qs rows) (hl : rows.length ≤ qs.length) (hq : qs.length ≤ 1000) (k : P (pendW qs rows) μ) : f_Client_pending [.ref C] μ P X := by
  rw [f_Client_pending_eq]; unfold f_Client_pending_B fDef
  refine ⟨rfl, ?_⟩
  have hc := h.c
  unfold cliO at hc
  have ho := h.o
  have hk := h.k
  unfold pendW at k
  cases e : qs[rows.length]? with
  | none =>
    rw [e] at k
    have := List.getElem?_eq_none_iff.mp e
    have lm : (qs.map Op.w).length = qs.length := List.length_map _
    walk_at "q"
    exact Rt.now k
  | some op =>
    rw [e] at k
    have lt := (List.getElem?_eq_some_iff.mp e).1
    have p1 : pick (qs.map Op.w) (rows.length : Int) = some op.w := pick_mapN e
    have lm : (qs.map Op.w).length = qs.length := List.length_map _
    walk_at "q"
    exact Rt.now k
theorem pend_none (e : qs[rows.length]? = none) : pendW qs rows = .non := by
  unfold pendW
  rw [e]
theorem pend_some {op : Op} (e : qs[rows.length]? = some op) : pendW qs rows = .tup [.int ((rows.length : Int) + 1), op.w] := by
  unfold pendW
  rw [e]
theorem due_none (e : qs[rows.length]? = none) : dueL L qs rows = [] := by
  unfold dueL
  rw [e]
theorem due_where {op : Op} (e : qs[rows.length]? = some op) (c : L[part op.place]? = some none) : dueL L qs rows = [.tup [.int 1000, .tup [.str "where", .str op.place]]] := by
  unfold dueL
  rw [e]
  show (match L[part op.place]? with
    | some (some (_, r)) => _
    | _ => _) = _
  rw [c]
theorem due_ask {op : Op} {m : Int} {r : Rep} (e : qs[rows.length]? = some op) (c : L[part op.place]? = some (some (m, r))) : dueL L qs rows = [.tup [.int r.x, .tup [.str "ask", .int ((rows.length : Int) + 1), op.w]]] := by
  unfold dueL
  rw [e]
  show (match L[part op.place]? with
    | some (some (_, r)) => _
    | _ => _) = _
  rw [c]
theorem sp_send (h : Cl μ C R a o ac n L qs rows) (hL : L.length = 4) (hl : rows.length ≤ qs.length) (hq : qs.length ≤ 1000) (ok : ∀ op ∈ qs, op.Ok) (k : P (.lst (dueL L qs rows)) μ) : f_Client__send [.ref C] μ P X := by
  rw [f_Client__send_eq]; unfold f_Client__send_B fDef
  refine ⟨rfl, ?_⟩
  have hc := h.c
  unfold cliO at hc
  have hr := h.r
  unfold insR at hr
  walk_at "q"
  refine sp_pending h hl hq ?_
  cases e : qs[rows.length]? with
  | none =>
    rw [due_none e] at k
    rw [pend_none e]
    walk_at "q"
    exact Rt.now k
  | some op =>
    rw [pend_some e]
    have ho := ok op (List.mem_of_getElem? e)
    walk_at "q"
    refine sp_placeO ho ?_
    walk_at "q"
    refine sp_find h.r h.p (fun x hx => (lawP_end L x hx).1) ?_
    have pl := part_lt op.place
    obtain ⟨c, hcc⟩ : ∃ c, L[part op.place]? = some c := ⟨_, List.getElem?_eq_getElem (by omega)⟩
    cases c with
    | none =>
      rw [due_where e hcc] at k
      rw [findW_none (find_part0 hcc)]
      walk_at "q"
      refine sp_placeO ho ?_
      walk_at "q"
      exact Rt.now k
    | some mr =>
      obtain ⟨m, r⟩ := mr
      rw [due_ask e hcc] at k
      obtain ⟨s, e2, f, _⟩ := find_part hcc
      rw [findW_some f, show enR (s, e2, r) = .tup [bw b9 4 s, bw b9 4 e2, .tup [.str r.lo, oS r.hi, .int r.ep, .int r.x, .int r.y, .str r.mid]] from rfl]
      walk_at "q"
      exact Rt.now k
end
end
end C4
end Q
namespace Q
open PySem L2
local macro_rules | `(tactic| walk_at "mu") => `(tactic| (repeat (first | exact mset_same | assumption | (rw [mset_ne]; rotate_left; (first | assumption | exact Ne.symm (by assumption))))))
local macro_rules | `(tactic| walk_at "lk") => `(tactic| (repeat (first | exact lk_hit | exact lk_nil | refine lk_skip (by decide +kernel) ?_)))
local macro_rules | `(tactic| walk_at "pf") => `(tactic| (repeat (first | rw [pf_nil] | rw [pf_hit] | (rw [pf_skip]; rotate_left; (focus (decide +kernel; done))))))
local macro_rules | `(tactic| walk_at "q") => `(tactic| ((with_reducible conv => whnf); repeat (first
  | (with_reducible refine q_t (by assumption) ?_; with_reducible conv => whnf)
  | (with_reducible refine q_f (by assumption) ?_; with_reducible conv => whnf)
  | (with_reducible refine q_t (by with_reducible rfl) ?_; with_reducible conv => whnf)
  | (with_reducible refine q_f (by with_reducible rfl) ?_; with_reducible conv => whnf)
  | (with_reducible refine q_t (by decide) ?_; with_reducible conv => whnf)
  | (with_reducible refine q_f (by decide) ?_; with_reducible conv => whnf)
  | (with_reducible refine q_t (decide_eq_true (by omega)) ?_; with_reducible conv => whnf)
  | (with_reducible refine q_f (decide_eq_false (by omega)) ?_; with_reducible conv => whnf)
  | (with_reducible refine q_f (q_nn (by omega)) ?_; with_reducible conv => whnf)
  | (with_reducible refine q_t (q_nt (by omega)) ?_; with_reducible conv => whnf)
  | (with_reducible refine q_len (by with_unfolding_all rfl) ?_; with_reducible conv => whnf)
  | (with_reducible refine q_leq (by with_unfolding_all rfl) ?_; with_reducible conv => whnf)
  | (with_reducible refine q_and (by first | assumption | exact True.intro | omega | (simp only [List.length_map, List.length_append, List.length_cons, List.length_nil]; omega) | decide) ?_; with_reducible conv => whnf)
  | (with_reducible refine q_le (by with_unfolding_all rfl) ?_; with_reducible conv => whnf)
  | (with_reducible refine q_and tyL_lst ?_; with_reducible conv => whnf)
  | (with_reducible refine q_and tyL_rol ?_; with_reducible conv => whnf)
  | (with_reducible refine q_and (tyL_ref (by walk_at "mu")) ?_; with_reducible conv => whnf)
  | (with_reducible refine q_and (tyD_ref (by walk_at "mu")) ?_; with_reducible conv => whnf)
  | (with_reducible refine q_and (rdD_ref (by walk_at "mu")) ?_; with_reducible conv => whnf)
  | (rw [pick_c0]; with_reducible conv => whnf)
  | (rw [pick_c1]; with_reducible conv => whnf)
  | (rw [pick_c2]; with_reducible conv => whnf)
  | (rw [pick_c3]; with_reducible conv => whnf)
  | (rw [pick_c4]; with_reducible conv => whnf)
  | (rw [pick_c5]; with_reducible conv => whnf)
  | (rw [mset_same]; with_reducible conv => whnf)
  | (rw [mset_ne (by assumption)]; with_reducible conv => whnf)
  | (rw [mset_ne]; rotate_left; (first | assumption | exact Ne.symm (by assumption)); with_reducible conv => whnf)
  | (rw [rdL_ref]; rotate_left; (focus (walk_at "mu"; done)); with_reducible conv => whnf)
  | (rw [rdL_refD]; rotate_left; (focus (walk_at "mu"; done)); with_reducible conv => whnf)
  | (rw [rdD_refD]; rotate_left; (focus (walk_at "mu"; done)); with_reducible conv => whnf)
  | (rw [rdM_ref]; rotate_left; (focus (walk_at "mu"; done)); with_reducible conv => whnf)
  | (rw [rdL_refK]; rotate_left; (focus (walk_at "mu"; done)); with_reducible conv => whnf)
  | (rw [rdD_refK]; rotate_left; (focus (walk_at "mu"; done)); with_reducible conv => whnf)
  | (rw [tyW_refL]; rotate_left; (focus (walk_at "mu"; done)); with_reducible conv => whnf)
  | (rw [tyW_refD]; rotate_left; (focus (walk_at "mu"; done)); with_reducible conv => whnf)
  | (rw [drf_ref]; rotate_left; (focus (walk_at "mu"; done)); with_reducible conv => whnf)
  | ((conv => (arg 2; tactic' => (walk_at "mu"; done))); with_reducible conv => whnf)
  | (with_reducible refine q_and (Eq.refl _) ?_; with_reducible conv => whnf)
  | (with_reducible refine q_and (MulO.r (by decide)) ?_; with_reducible conv => whnf)
  | (with_reducible refine q_and (MulO.l (by decide)) ?_; with_reducible conv => whnf)
  | (with_reducible refine q_and (MulO.r (by omega)) ?_; with_reducible conv => whnf)
  | (with_reducible refine q_and (MulO.l (by omega)) ?_; with_reducible conv => whnf)
  | (with_reducible refine q_pow (by decide) ?_; with_reducible conv => whnf)
  | (with_reducible refine q_nisT (by first | assumption | with_reducible rfl) ?_; with_reducible conv => whnf)
  | (with_reducible refine q_nisF (by first | assumption | with_reducible rfl) ?_; with_reducible conv => whnf)
  | (with_reducible refine q_eqI ?_; with_reducible conv => whnf)
  | (with_reducible refine q_eqS ?_; with_reducible conv => whnf)
  | (with_reducible refine q_eqB ?_; with_reducible conv => whnf)
  | (with_reducible refine q_neI ?_; with_reducible conv => whnf)
  | (with_reducible refine q_neS ?_; with_reducible conv => whnf)
  | (with_reducible refine q_neB ?_; with_reducible conv => whnf)
  | (with_reducible refine q_memc ?_; with_reducible conv => whnf)
  | (with_reducible refine q_lkn (by walk_at "lk") ?_; with_reducible conv => whnf)
  | (with_reducible refine q_tix (by walk_at "lk"; done) ?_; with_reducible conv => whnf)
  | (with_reducible refine q_tin ?_; with_reducible conv => whnf)
  | (rw [pf_hit]; with_reducible conv => whnf)
  | (rw [pf_skip]; rotate_left; (focus (decide +kernel; done)); with_reducible conv => whnf)
  | (rw [lk_hit]; with_reducible conv => whnf)
  | (rw [lk_skip1]; rotate_left; (focus (decide +kernel; done)); with_reducible conv => whnf))))
/-! the client receives -/
namespace C4
section
open Mspan
variable {μ : Mu} {P : Po} {X : Xo} {C R a o ac Pt : Addr} {n : Nat} {L : List Cell} {qs : List Op} {rows : List W}
theorem ne_old {μ : Mu} {x p : Addr} {u : O} (hx : μ x = some u) (hp : μ p = none) : x ≠ p := fun e => by
  rw [e, hp] at hx
  cases hx
theorem Cl.route {L' : List Cell} {S : List (Sp Rep)} {p : Addr} (h : Cl μ C R a o ac n L qs rows) (hp : μ p = none) (e : S = lawP L') : Cl (mset (mset μ p (.ls (S.map enR))) R (insR p)) C R p o ac n L' qs rows := by
  subst e
  have n1 : C ≠ R := fun e => by
    have := h.c
    rw [e, h.r] at this
    cases this
  have n2 : o ≠ R := fun e => by
    have := h.o
    rw [e, h.r] at this
    cases this
  have n3 : ac ≠ R := fun e => by
    have := h.k
    rw [e, h.r] at this
    cases this
  have n4 : p ≠ R := fun e => by
    rw [e, h.r] at hp
    cases hp
  refine ⟨?_, mset_same, ?_, ?_, ?_⟩
  · rw [mset_ne n1, mset_ne (ne_old h.c hp), h.c]
  · rw [mset_ne n4, mset_same]
  · rw [mset_ne n2, mset_ne (ne_old h.o hp), h.o]
  · rw [mset_ne n3, mset_ne (ne_old h.k hp), h.k]
theorem Cl.fr {x : Addr} {u : O} (h : Cl μ C R a o ac n L qs rows) (h1 : x ≠ C) (h2 : x ≠ R) (h3 : x ≠ a) (h4 : x ≠ o) (h5 : x ≠ ac) : Cl (mset μ x u) C R a o ac n L qs rows :=
  ⟨by rw [mset_ne (Ne.symm h1), h.c], by rw [mset_ne (Ne.symm h2), h.r], by rw [mset_ne (Ne.symm h3), h.p], by rw [mset_ne (Ne.symm h4), h.o], by rw [mset_ne (Ne.symm h5), h.k]⟩
theorem Cl.app (h : Cl μ C R a o ac n L qs rows) (h1 : o ≠ a) (h2 : o ≠ ac) (op : Op) : Cl (mset μ o (.ls ((qs ++ [op]).map Op.w))) C R a o ac n L (qs ++ [op]) rows := by
  have n1 : C ≠ o := fun e => by
    have := h.c
    rw [e, h.o] at this
    cases this
  have n2 : R ≠ o := fun e => by
    have := h.r
    rw [e, h.o] at this
    cases this
  exact ⟨by rw [mset_ne n1, h.c], by rw [mset_ne n2, h.r], by rw [mset_ne (Ne.symm h1), h.p], mset_same, by rw [mset_ne (Ne.symm h2), h.k]⟩
theorem Cl.acc (h : Cl μ C R a o ac n L qs rows) (h1 : ac ≠ a) (h2 : ac ≠ o) (w : W) : Cl (mset μ ac (.ls (rows ++ [w]))) C R a o ac n L qs (rows ++ [w]) := by
  have n1 : C ≠ ac := fun e => by
    have := h.c
    rw [e, h.k] at this
    cases this
  have n2 : R ≠ ac := fun e => by
    have := h.r
    rw [e, h.k] at this
    cases this
  exact ⟨by rw [mset_ne n1, h.c], by rw [mset_ne n2, h.r], by rw [mset_ne (Ne.symm h1), h.p], by rw [mset_ne (Ne.symm h2), h.o], mset_same⟩
/-- is the number the pending one? -/
def isP (qs : List Op) (rows : List W) (i : Int) : Bool := decide (rows.length < qs.length) && decide ((rows.length : Int) + 1 = i)
theorem sp_is_pending {i : Int} (h : Cl μ C R a o ac n L qs rows) (hl : rows.length ≤ qs.length) (hq : qs.length ≤ 1000) (k : P (.bl (isP qs rows i)) μ) : f_Client__is_pending_2 [.ref C, .int i] μ P X := by
  rw [f_Client__is_pending_2_eq]; unfold f_Client__is_pending_2_B fDef
  refine ⟨rfl, ?_⟩
  have hc := h.c
  unfold cliO at hc
  unfold isP at k
  walk_at "q"
  refine sp_pending h hl hq ?_
  cases e : qs[rows.length]? with
  | none =>
    have := List.getElem?_eq_none_iff.mp e
    rw [decide_eq_false (show ¬rows.length < qs.length by omega), Bool.false_and] at k
    rw [pend_none e]
    walk_at "q"
    exact Rt.now k
  | some op =>
    have lt := (List.getElem?_eq_some_iff.mp e).1
    rw [decide_eq_true lt, Bool.true_and] at k
    rw [pend_some e]
    walk_at "q"
    exact Rt.now k
/-- what is sent after a report -/
def learnL (L' : List Cell) (qs : List Op) (rows : List W) (lo hi : Nat) : List W := match qs[rows.length]? with
  | some op => if lo ≤ part op.place ∧ part op.place < hi then dueL L' qs rows else []
  | none => []
def thereW (lo hi : Nat) (ep x : Int) : W := .tup [.str "there", .str (b9 lo), bw b9 4 hi, .int ep, .int x]
theorem sp_learn {lo hi : Nat} {ep x : Int} {L' : List Cell} (h : Cl μ C R a o ac n L qs rows) (hT : μ Pt = some (.tb ("fused", none) ("fused" ++ ".<locals>." ++ "<lambda>"))) (hlh : lo < hi) (h4 : hi ≤ 4) (hL : L'.length = 4)
    (e : fuse (srt (acted lo hi ⟨b9 lo, bo b9 4 hi, ep, x, 0, ""⟩ (nw ⟨b9 lo, bo b9 4 hi, ep, x, 0, ""⟩) (lawP L))) = lawP L') (hl : rows.length ≤ qs.length) (hq : qs.length ≤ 1000) (ok : ∀ op ∈ qs, op.Ok)
    (k : ∀ p, μ p = none → P (.lst (learnL L' qs rows lo hi)) (mset (mset μ p (.ls ((lawP L').map enR))) R (insR p))) : f_Client__learn_2 [.ref C, thereW lo hi ep x] μ P X := by
  rw [f_Client__learn_2_eq]; unfold f_Client__learn_2_B fDef
  refine ⟨rfl, ?_⟩
  have hc := h.c
  unfold cliO at hc
  have hr := h.r
  unfold insR at hr
  unfold thereW
  walk_at "q"
  have g1 := lawP_ok L
  have g2 := lawP_end L
  refine sp_add (r := ⟨b9 lo, bo b9 4 hi, ep, x, 0, ""⟩) (a := a) ⟨rfl, rfl, hlh, h4⟩ h.r h.p hT g1.1 g1.2.1.asc (fun x hx => (g2 x hx).2) (len9 g1.1 g1.2.1.asc g2) fun p hp => ?_
  have h2 := h.route (L' := L') hp e
  rw [e]
  have k := k p hp
  revert h2 k
  rw [e]
  generalize mset (mset μ p (.ls ((lawP L').map enR))) R (insR p) = μ2
  intro h2 k
  have hc2 := h2.c
  unfold cliO at hc2
  unfold learnL at k
  walk_at "q"
  refine sp_pending h2 hl hq ?_
  cases e2 : qs[rows.length]? with
  | none =>
    rw [e2] at k
    rw [pend_none e2]
    walk_at "q"
    exact Rt.now k
  | some op =>
    rw [e2] at k
    have k : P (.lst (if lo ≤ part op.place ∧ part op.place < hi then dueL L' qs rows else [])) μ2 := k
    rw [pend_some e2]
    have ho := ok op (List.mem_of_getElem? e2)
    walk_at "q"
    refine sp_placeO ho ?_
    walk_at "q"
    rw [← bw_lt (b := b9) (show lo < 4 by omega)]
    refine sp_contains (v := ⟨b9 lo, bo b9 4 hi, ep, x, 0, ""⟩) (by omega) ?_
    rw [hasB_part (by omega) h4]
    by_cases c : lo ≤ part op.place ∧ part op.place < hi
    · rw [if_pos c] at k
      rw [decide_eq_true c]
      walk_at "q"
      refine sp_send h2 hL hl hq ok ?_
      exact Rt.now k
    · rw [if_neg c] at k
      rw [decide_eq_false c]
      walk_at "q"
      exact Rt.now k
/-- a client's letter is dropped: what stands after 'elsewhere' -/
theorem sp_forget {num sd : Int} (h : Cl μ C R a o ac n L qs rows) (hL : L.length = 4) (hl : rows.length ≤ qs.length) (hq : qs.length ≤ 1000) (ok : ∀ op ∈ qs, op.Ok)
    (k0 : (∀ op m r, isP qs rows num = true → qs[rows.length]? = some op → L[part op.place]? = some (some (m, r)) → r.x ≠ sd) → P (.lst []) μ)
    (k1 : ∀ op m r p, isP qs rows num = true → qs[rows.length]? = some op → L[part op.place]? = some (some (m, r)) → r.x = sd → μ p = none → P (.lst []) (mset (mset μ p (.ls (((lawP L).filter fun x => !hasB op.place x).map enR))) R (insR p))) :
    f_Client__forget_2 [.ref C, .int sd, .tup [.str "elsewhere", .int num]] μ P X := by
  rw [f_Client__forget_2_eq]; unfold f_Client__forget_2_B fDef
  refine ⟨rfl, ?_⟩
  have hc := h.c
  unfold cliO at hc
  have hr := h.r
  unfold insR at hr
  walk_at "q"
  refine q_go ?_
  walk_at "q"
  refine sp_is_pending h hl hq ?_
  cases ep : isP qs rows num with
  | false =>
    walk_at "q"
    exact Rt.now (k0 fun _ _ _ z => by rw [ep] at z; cases z)
  | true =>
    have lt : rows.length < qs.length := by
      unfold isP at ep
      exact of_decide_eq_true (Bool.and_eq_true_iff.mp ep).1
    have e2 : qs[rows.length]? = some qs[rows.length] := List.getElem?_eq_getElem lt
    revert e2
    generalize qs[rows.length] = op
    intro e2
    have ho := ok op (List.mem_of_getElem? e2)
    walk_at "q"
    refine sp_pending h hl hq ?_
    rw [pend_some e2]
    walk_at "q"
    refine sp_placeO ho ?_
    walk_at "q"
    refine sp_find h.r h.p (fun x hx => (lawP_end L x hx).1) ?_
    have pl := part_lt op.place
    obtain ⟨c, hcc⟩ : ∃ c, L[part op.place]? = some c := ⟨_, List.getElem?_eq_getElem (by omega)⟩
    cases c with
    | none =>
      rw [findW_none (find_part0 hcc)]
      walk_at "q"
      refine Rt.now (k0 fun op' m r _ z1 z2 => ?_)
      rw [e2] at z1
      cases z1
      rw [hcc] at z2
      cases z2
    | some mr =>
      obtain ⟨m, r⟩ := mr
      obtain ⟨s, e3, f, _⟩ := find_part hcc
      have l9 := len9 (lawP_ok L).1 (lawP_ok L).2.1.asc (lawP_end L)
      rw [findW_some f, show enR (s, e3, r) = .tup [bw b9 4 s, bw b9 4 e3, .tup [.str r.lo, oS r.hi, .int r.ep, .int r.x, .int r.y, .str r.mid]] from rfl]
      walk_at "q"
      refine q_ifP (fun c1 => ?_) fun c1 => ?_
      · walk_at "q"
        refine sp_drop h.r h.p (fun x hx => (lawP_end L x hx).1) (by omega) fun p hp => ?_
        walk_at "q"
        exact Rt.now (k1 op m r p ep e2 hcc c1 hp)
      · walk_at "q"
        refine Rt.now (k0 fun op' m' r' _ z1 z2 => ?_)
        rw [e2] at z1
        cases z1
        rw [hcc] at z2
        cases z2
        exact c1
theorem sp_accept {num : Int} {an : W} (h : Cl μ C R a o ac n L qs rows) (hL : L.length = 4) (hl : rows.length ≤ qs.length) (hq : qs.length ≤ 1000) (ok : ∀ op ∈ qs, op.Ok) (na : ac ≠ a) (no : ac ≠ o)
    (k0 : isP qs rows num = false → P (.lst []) μ)
    (k1 : ∀ op, isP qs rows num = true → qs[rows.length]? = some op → P (.lst (dueL L qs (rows ++ [.tup [.int num, op.w, an]]))) (mset μ ac (.ls (rows ++ [.tup [.int num, op.w, an]])))) :
    f_Client__accept_2 [.ref C, .tup [.str "answer", .int num, an]] μ P X := by
  rw [f_Client__accept_2_eq]; unfold f_Client__accept_2_B fDef
  refine ⟨rfl, ?_⟩
  have hc := h.c
  unfold cliO at hc
  have hk := h.k
  walk_at "q"
  refine sp_is_pending h hl hq ?_
  cases ep : isP qs rows num with
  | false =>
    walk_at "q"
    exact Rt.now (k0 ep)
  | true =>
    have hh := Bool.and_eq_true_iff.mp (show (_ && _) = true from ep)
    have lt : rows.length < qs.length := of_decide_eq_true hh.1
    have en : (rows.length : Int) + 1 = num := of_decide_eq_true hh.2
    have e2 : qs[rows.length]? = some qs[rows.length] := List.getElem?_eq_getElem lt
    revert e2
    generalize qs[rows.length] = op
    intro e2
    walk_at "q"
    refine sp_pending h hl hq ?_
    rw [pend_some e2, en]
    have h2 := h.acc na no (.tup [.int num, op.w, an])
    have k2 := k1 op ep e2
    walk_at "q"
    rw [show [W.int num, op.w] ++ [an] = [W.int num, op.w, an] from rfl]
    have hc2 := h2.c
    unfold cliO at hc2
    walk_at "q"
    refine sp_send h2 hL (by rw [List.length_append]; show rows.length + 1 ≤ _; omega) hq ok ?_
    exact Rt.now k2
end
end C4
end Q
namespace Q
open PySem L2
local macro_rules | `(tactic| walk_at "mu") => `(tactic| (repeat (first | exact mset_same | assumption | (rw [mset_ne]; rotate_left; (first | assumption | exact Ne.symm (by assumption))))))
local macro_rules | `(tactic| walk_at "lk") => `(tactic| (repeat (first | exact lk_hit | exact lk_nil | refine lk_skip (by decide +kernel) ?_)))
local macro_rules | `(tactic| walk_at "pf") => `(tactic| (repeat (first | rw [pf_nil] | rw [pf_hit] | (rw [pf_skip]; rotate_left; (focus (decide +kernel; done))))))
local macro_rules | `(tactic| walk_at "q") => `(tactic| ((with_reducible conv => whnf); repeat (first
  | (with_reducible refine q_t (by assumption) ?_; with_reducible conv => whnf)
  | (with_reducible refine q_f (by assumption) ?_; with_reducible conv => whnf)
  | (with_reducible refine q_t (by with_reducible rfl) ?_; with_reducible conv => whnf)
  | (with_reducible refine q_f (by with_reducible rfl) ?_; with_reducible conv => whnf)
  | (with_reducible refine q_t (by decide) ?_; with_reducible conv => whnf)
  | (with_reducible refine q_f (by decide) ?_; with_reducible conv => whnf)
  | (with_reducible refine q_t (decide_eq_true (by omega)) ?_; with_reducible conv => whnf)
  | (with_reducible refine q_f (decide_eq_false (by omega)) ?_; with_reducible conv => whnf)
  | (with_reducible refine q_f (q_nn (by omega)) ?_; with_reducible conv => whnf)
  | (with_reducible refine q_t (q_nt (by omega)) ?_; with_reducible conv => whnf)
  | (with_reducible refine q_len (by with_unfolding_all rfl) ?_; with_reducible conv => whnf)
  | (with_reducible refine q_leq (by with_unfolding_all rfl) ?_; with_reducible conv => whnf)
  | (with_reducible refine q_and (by first | assumption | exact True.intro | omega | (simp only [List.length_map, List.length_append, List.length_cons, List.length_nil]; omega) | decide) ?_; with_reducible conv => whnf)
  | (with_reducible refine q_le (by with_unfolding_all rfl) ?_; with_reducible conv => whnf)
  | (with_reducible refine q_and tyL_lst ?_; with_reducible conv => whnf)
  | (with_reducible refine q_and tyL_rol ?_; with_reducible conv => whnf)
  | (with_reducible refine q_and (tyL_ref (by walk_at "mu")) ?_; with_reducible conv => whnf)
  | (with_reducible refine q_and (tyD_ref (by walk_at "mu")) ?_; with_reducible conv => whnf)
  | (with_reducible refine q_and (rdD_ref (by walk_at "mu")) ?_; with_reducible conv => whnf)
  | (rw [pick_c0]; with_reducible conv => whnf)
  | (rw [pick_c1]; with_reducible conv => whnf)
  | (rw [pick_c2]; with_reducible conv => whnf)
  | (rw [pick_c3]; with_reducible conv => whnf)
  | (rw [pick_c4]; with_reducible conv => whnf)
  | (rw [pick_c5]; with_reducible conv => whnf)
  | (rw [mset_same]; with_reducible conv => whnf)
  | (rw [mset_ne (by assumption)]; with_reducible conv => whnf)
  | (rw [mset_ne]; rotate_left; (first | assumption | exact Ne.symm (by assumption)); with_reducible conv => whnf)
  | (rw [rdL_ref]; rotate_left; (focus (walk_at "mu"; done)); with_reducible conv => whnf)
  | (rw [rdL_refD]; rotate_left; (focus (walk_at "mu"; done)); with_reducible conv => whnf)
  | (rw [rdD_refD]; rotate_left; (focus (walk_at "mu"; done)); with_reducible conv => whnf)
  | (rw [rdM_ref]; rotate_left; (focus (walk_at "mu"; done)); with_reducible conv => whnf)
  | (rw [rdL_refK]; rotate_left; (focus (walk_at "mu"; done)); with_reducible conv => whnf)
  | (rw [rdD_refK]; rotate_left; (focus (walk_at "mu"; done)); with_reducible conv => whnf)
  | (rw [tyW_refL]; rotate_left; (focus (walk_at "mu"; done)); with_reducible conv => whnf)
  | (rw [tyW_refD]; rotate_left; (focus (walk_at "mu"; done)); with_reducible conv => whnf)
  | (rw [drf_ref]; rotate_left; (focus (walk_at "mu"; done)); with_reducible conv => whnf)
  | ((conv => (arg 2; tactic' => (walk_at "mu"; done))); with_reducible conv => whnf)
  | (with_reducible refine q_and (Eq.refl _) ?_; with_reducible conv => whnf)
  | (with_reducible refine q_and (MulO.r (by decide)) ?_; with_reducible conv => whnf)
  | (with_reducible refine q_and (MulO.l (by decide)) ?_; with_reducible conv => whnf)
  | (with_reducible refine q_and (MulO.r (by omega)) ?_; with_reducible conv => whnf)
  | (with_reducible refine q_and (MulO.l (by omega)) ?_; with_reducible conv => whnf)
  | (with_reducible refine q_pow (by decide) ?_; with_reducible conv => whnf)
  | (with_reducible refine q_nisT (by first | assumption | with_reducible rfl) ?_; with_reducible conv => whnf)
  | (with_reducible refine q_nisF (by first | assumption | with_reducible rfl) ?_; with_reducible conv => whnf)
  | (with_reducible refine q_eqI ?_; with_reducible conv => whnf)
  | (with_reducible refine q_eqS ?_; with_reducible conv => whnf)
  | (with_reducible refine q_eqB ?_; with_reducible conv => whnf)
  | (with_reducible refine q_neI ?_; with_reducible conv => whnf)
  | (with_reducible refine q_neS ?_; with_reducible conv => whnf)
  | (with_reducible refine q_neB ?_; with_reducible conv => whnf)
  | (with_reducible refine q_memc ?_; with_reducible conv => whnf)
  | (with_reducible refine q_lkn (by walk_at "lk") ?_; with_reducible conv => whnf)
  | (with_reducible refine q_tix (by walk_at "lk"; done) ?_; with_reducible conv => whnf)
  | (with_reducible refine q_tin ?_; with_reducible conv => whnf)
  | (rw [pf_hit]; with_reducible conv => whnf)
  | (rw [pf_skip]; rotate_left; (focus (decide +kernel; done)); with_reducible conv => whnf)
  | (rw [lk_hit]; with_reducible conv => whnf)
  | (rw [lk_skip1]; rotate_left; (focus (decide +kernel; done)); with_reducible conv => whnf))))
/-! the client receives: the letters -/
namespace C4
section
open Mspan
variable {μ : Mu} {P : Po} {X : Xo} {C R a o ac Pt : Addr} {n : Nat} {L : List Cell} {qs : List Op} {rows : List W}
theorem range4 {lo hi : Nat} (h1 : lo < hi) (h2 : hi ≤ 4) : rangeW (.str (b9 lo)) (bw b9 4 hi) = true := by
  have key : ∀ lo : Fin 4, ∀ hi : Fin 5, lo.1 < hi.1 → rangeW (.str (b9 lo.1)) (bw b9 4 hi.1) = true := by decide +kernel
  exact key ⟨lo, by omega⟩ ⟨hi, by omega⟩ h1
theorem num_ok {i : Int} (h1 : 1 ≤ i) (h2 : i ≤ 10000) : numW (.int i) = true := by
  show (decide (1 ≤ i) && decide (i ≤ 1000000000000)) = true
  rw [decide_eq_true h1, decide_eq_true (by omega)]
  rfl
theorem srv_ok {i : Int} (h1 : 0 ≤ i) (h2 : i < n) : intB (.int i) 0 ((n : Int) - 1) = true := by
  show (decide (0 ≤ i) && decide (i ≤ (n : Int) - 1)) = true
  rw [decide_eq_true h1, decide_eq_true (by omega)]
  rfl
theorem there_ok {lo hi : Nat} {ep x : Int} (h1 : lo < hi) (h2 : hi ≤ 4) (e1 : 1 ≤ ep) (e2 : ep ≤ 10000) (x1 : 0 ≤ x) (x2 : x < n) : mayB n (.int 1000) (.int (-5)) (thereW lo hi ep x) = true ∧ dp (thereW lo hi ep x) = true := by
  refine ⟨?_, ?_⟩
  · have e3 : letW n (thereW lo hi ep x) = true := by
      show letB n (.str "there" :: _) = true
      rw [let_there]
      show ((decide (5 = 5) && (rangeW (.str (b9 lo)) (bw b9 4 hi) && numW (.int ep))) && intB (.int x) 0 ((n : Int) - 1)) = true
      rw [range4 h1 h2, num_ok e1 e2, srv_ok x1 x2]
      rfl
    unfold mayB
    rw [e3, Bool.true_and]
    have e2 : wayOf (kindW (thereW lo hi ep x)) = (.dr, .cl) := by
      show wayOf "there" = _
      decide +kernel
    rw [e2]
    rfl
  · have key : ∀ lo : Fin 4, ∀ hi : Fin 5, dp (.tup [.str "there", .str (b9 lo.1), bw b9 4 hi.1, .int 0, .int 0]) = true := by decide +kernel
    exact key ⟨lo, by omega⟩ ⟨hi, by omega⟩
theorem else_ok {i s : Int} (h1 : 1 ≤ i) (h2 : i ≤ 10000) (x1 : 0 ≤ s) (x2 : s < n) : mayB n (.int s) (.int (-5)) (.tup [.str "elsewhere", .int i]) = true ∧ dp (.tup [.str "elsewhere", .int i]) = true := by
  refine ⟨?_, rfl⟩
  unfold mayB
  rw [show letW n (.tup [.str "elsewhere", .int i]) = true from (by
    show letB n (.str "elsewhere" :: _) = true
    rw [let_elsewhere]
    exact num_ok h1 h2), show wayOf (kindW (.tup [.str "elsewhere", .int i])) = (.sv, .cl) from (by
    show wayOf "elsewhere" = _
    decide +kernel), Bool.true_and]
  show (intB (.int s) 0 ((n : Int) - 1) && _) = true
  rw [srv_ok x1 x2]
  rfl
theorem ans_ok4 {i s : Int} {an : W} (h1 : 1 ≤ i) (h2 : i ≤ 10000) (x1 : 0 ≤ s) (x2 : s < n) (ha : ansW an = true) (hd : dp an = true) : mayB n (.int s) (.int (-5)) (.tup [.str "answer", .int i, an]) = true ∧ dp (.tup [.str "answer", .int i, an]) = true := by
  refine ⟨?_, ?_⟩
  · unfold mayB
    rw [show letW n (.tup [.str "answer", .int i, an]) = true from (by
      show letB n (.str "answer" :: _) = true
      rw [let_answer]
      show (decide (3 = 3) && (numW (.int i) && ansW an)) = true
      rw [num_ok h1 h2, ha]
      rfl), show wayOf (kindW (.tup [.str "answer", .int i, an])) = (.sv, .cl) from (by
      show wayOf "answer" = _
      decide +kernel), Bool.true_and]
    show (intB (.int s) 0 ((n : Int) - 1) && _) = true
    rw [srv_ok x1 x2]
    rfl
  · unfold dp dps dps dps dps
    rw [hd, show dp (.str "answer") = true by decide +kernel, show dp (.int i) = true by unfold dp; rfl]
    rfl
theorem q_tryX {c : Str} {cs : List Str} {s : FS} {r : List (List Str × FS)} {N : En} {ρ : Rho} {fs : List (Str × W)} {μ : Mu} (hm : c ∈ cs) (h : s ρ μ (noEx N)) : tryX ((cs, s) :: r) N ρ c fs μ := (if_pos hm).mpr h
theorem sp_rcvBad {s l : W} (h : Cl μ C R a o ac n L qs rows) (hs : pl s = true) (hl : dp l = true) (hm : mayB n s (.int (-5)) l = false) (k : P (.lst []) μ) : f_Client_receive_2 [.ref C, s, l] μ P X := by
  rw [f_Client_receive_2_eq]; unfold f_Client_receive_2_B fDef
  refine ⟨rfl, ?_⟩
  have hc := h.c
  unfold cliO at hc
  walk_at "q"
  refine q_go ?_
  walk_at "q"
  refine sp_check hs rfl hl (fun z => by rw [hm] at z; cases z) fun _ => ?_
  refine ⟨by decide +kernel, ?_⟩
  refine q_tryX (by decide +kernel) ?_
  walk_at "q"
  exact Rt.now k
theorem sp_rcvThere {lo hi : Nat} {ep x : Int} {L' : List Cell} (h : Cl μ C R a o ac n L qs rows) (hT : μ Pt = some (.tb ("fused", none) ("fused" ++ ".<locals>." ++ "<lambda>"))) (hlh : lo < hi) (h4 : hi ≤ 4) (e1 : 1 ≤ ep) (e2 : ep ≤ 10000) (x1 : 0 ≤ x) (x2 : x < n) (hL : L'.length = 4)
    (e : fuse (srt (acted lo hi ⟨b9 lo, bo b9 4 hi, ep, x, 0, ""⟩ (nw ⟨b9 lo, bo b9 4 hi, ep, x, 0, ""⟩) (lawP L))) = lawP L') (hl : rows.length ≤ qs.length) (hq : qs.length ≤ 1000) (ok : ∀ op ∈ qs, op.Ok)
    (k : ∀ p, μ p = none → P (.lst (learnL L' qs rows lo hi)) (mset (mset μ p (.ls ((lawP L').map enR))) R (insR p))) : f_Client_receive_2 [.ref C, .int 1000, thereW lo hi ep x] μ P X := by
  obtain ⟨hm, hd⟩ := there_ok (n := n) hlh h4 e1 e2 x1 x2
  rw [f_Client_receive_2_eq]; unfold f_Client_receive_2_B fDef
  refine ⟨rfl, ?_⟩
  have hc := h.c
  unfold cliO at hc
  walk_at "q"
  refine q_go ?_
  walk_at "q"
  refine sp_check rfl rfl hd (fun _ => ?_) fun z => by rw [hm] at z; cases z
  unfold thereW
  walk_at "q"
  refine sp_learn (lo := lo) (hi := hi) (ep := ep) (x := x) h hT hlh h4 hL e hl hq ok fun p hp => ?_
  exact Rt.now (k p hp)
theorem sp_rcvElse {num sd : Int} (h : Cl μ C R a o ac n L qs rows) (n1 : 1 ≤ num) (n2 : num ≤ 10000) (x1 : 0 ≤ sd) (x2 : sd < n) (hL : L.length = 4) (hl : rows.length ≤ qs.length) (hq : qs.length ≤ 1000) (ok : ∀ op ∈ qs, op.Ok)
    (k0 : (∀ op m r, isP qs rows num = true → qs[rows.length]? = some op → L[part op.place]? = some (some (m, r)) → r.x ≠ sd) → P (.lst []) μ)
    (k1 : ∀ op m r p, isP qs rows num = true → qs[rows.length]? = some op → L[part op.place]? = some (some (m, r)) → r.x = sd → μ p = none → P (.lst []) (mset (mset μ p (.ls (((lawP L).filter fun x => !hasB op.place x).map enR))) R (insR p))) : f_Client_receive_2 [.ref C, .int sd, .tup [.str "elsewhere", .int num]] μ P X := by
  obtain ⟨hm, hd⟩ := else_ok (n := n) n1 n2 x1 x2
  rw [f_Client_receive_2_eq]; unfold f_Client_receive_2_B fDef
  refine ⟨rfl, ?_⟩
  have hc := h.c
  unfold cliO at hc
  walk_at "q"
  refine q_go ?_
  walk_at "q"
  refine sp_check rfl rfl hd (fun _ => ?_) fun z => by rw [hm] at z; cases z
  walk_at "q"
  refine sp_forget h hL hl hq ok (fun z => ?_) fun op m r p z1 z2 z3 z4 hp => ?_
  · exact Rt.now (k0 z)
  · exact Rt.now (k1 op m r p z1 z2 z3 z4 hp)
theorem sp_rcvAns {num sd : Int} {an : W} (h : Cl μ C R a o ac n L qs rows) (n1 : 1 ≤ num) (n2 : num ≤ 10000) (x1 : 0 ≤ sd) (x2 : sd < n) (ha : ansW an = true) (hda : dp an = true) (hL : L.length = 4) (hl : rows.length ≤ qs.length) (hq : qs.length ≤ 1000) (ok : ∀ op ∈ qs, op.Ok) (na : ac ≠ a) (no : ac ≠ o)
    (k0 : isP qs rows num = false → P (.lst []) μ)
    (k1 : ∀ op, isP qs rows num = true → qs[rows.length]? = some op → P (.lst (dueL L qs (rows ++ [.tup [.int num, op.w, an]]))) (mset μ ac (.ls (rows ++ [.tup [.int num, op.w, an]])))) : f_Client_receive_2 [.ref C, .int sd, .tup [.str "answer", .int num, an]] μ P X := by
  obtain ⟨hm, hd⟩ := ans_ok4 (n := n) n1 n2 x1 x2 ha hda
  rw [f_Client_receive_2_eq]; unfold f_Client_receive_2_B fDef
  refine ⟨rfl, ?_⟩
  have hc := h.c
  unfold cliO at hc
  walk_at "q"
  refine q_go ?_
  walk_at "q"
  refine sp_check rfl rfl hd (fun _ => ?_) fun z => by rw [hm] at z; cases z
  walk_at "q"
  refine sp_accept h hL hl hq ok na no (fun z => ?_) fun op z1 z2 => ?_
  · exact Rt.now (k0 z)
  · exact Rt.now (k1 op z1 z2)
theorem sp_submit {op : Op} (h : Cl μ C R a o ac n L qs rows) (ho : op.Ok) (hL : L.length = 4) (hl : rows.length ≤ qs.length) (hq : qs.length ≤ 900) (ok : ∀ op ∈ qs, op.Ok) (na : o ≠ a) (no : o ≠ ac)
    (k : P (.lst (if rows.length < qs.length then [] else dueL L (qs ++ [op]) rows)) (mset μ o (.ls ((qs ++ [op]).map Op.w)))) : f_Client_submit [.ref C, op.w] μ P X := by
  obtain ⟨o1, o2⟩ := op_ok ho
  rw [f_Client_submit_eq]; unfold f_Client_submit_B fDef
  refine ⟨rfl, ?_⟩
  have hc := h.c
  unfold cliO at hc
  have hoo := h.o
  walk_at "q"
  refine sp_op o2 ?_
  rw [o1]
  walk_at "q"
  refine sp_pending h hl (by omega) ?_
  have h2 := h.app na no op
  have em : (qs ++ [op]).map Op.w = qs.map Op.w ++ [op.w] := by rw [List.map_append]; rfl
  have lm : (qs.map Op.w).length = qs.length := List.length_map _
  rw [em] at k h2
  have hc2 := h2.c
  unfold cliO at hc2
  by_cases c : rows.length < qs.length
  · rw [if_pos c] at k
    have e2 : qs[rows.length]? = some qs[rows.length] := List.getElem?_eq_getElem c
    rw [pend_some e2]
    walk_at "q"
    exact Rt.now k
  · rw [if_neg c] at k
    rw [pend_none (List.getElem?_eq_none (by omega))]
    walk_at "q"
    refine sp_send (qs := qs ++ [op]) h2 hL (by rw [List.length_append]; omega) (by rw [List.length_append]; show qs.length + 1 ≤ _; omega) (fun op' hop => ?_) ?_
    · rcases List.mem_append.mp hop with q | q
      · exact ok op' q
      · rw [List.mem_singleton.mp q]
        exact ho
    · exact Rt.now k
theorem sp_tick (h : Cl μ C R a o ac n L qs rows) (hL : L.length = 4) (hl : rows.length ≤ qs.length) (hq : qs.length ≤ 1000) (ok : ∀ op ∈ qs, op.Ok) (k : P (.lst (dueL L qs rows)) μ) : f_Client_tick_2 [.ref C] μ P X := by
  rw [f_Client_tick_2_eq]; unfold f_Client_tick_2_B fDef
  refine ⟨rfl, ?_⟩
  have hc := h.c
  unfold cliO at hc
  walk_at "q"
  refine sp_send h hL hl hq ok ?_
  exact Rt.now k
theorem sp_accepted (h : Cl μ C R a o ac n L qs rows) (hl : rows.length ≤ 1000) (k : ∀ p, μ p = none → P (.ref p) (mset μ p (.ls rows))) : f_Client_accepted_2 [.ref C] μ P X := by
  rw [f_Client_accepted_2_eq]; unfold f_Client_accepted_2_B fDef
  refine ⟨rfl, ?_⟩
  have hc := h.c
  unfold cliO at hc
  have rA : rdA μ (.ref ac) = some rows := rdL_ref h.k
  walk_at "q"
  intro p hp
  exact Rt.now (k p hp)
theorem sp_cpieces (h : Cl μ C R a o ac n L qs rows) (k : ∀ p, μ p = none → P (.ref p) (mset μ p (.ls ((lawP L).map enR)))) : f_Client_pieces_2 [.ref C] μ P X := by
  rw [f_Client_pieces_2_eq]; unfold f_Client_pieces_2_B fDef
  refine ⟨rfl, ?_⟩
  have hc := h.c
  unfold cliO at hc
  have hr := h.r
  unfold insR at hr
  walk_at "q"
  have l9 := len9 (lawP_ok L).1 (lawP_ok L).2.1.asc (lawP_end L)
  refine sp_pieces h.r h.p (by omega) fun p hp => ?_
  exact Rt.now (k p hp)
end
end C4
end Q
namespace Q
open PySem L2
local macro_rules | `(tactic| walk_at "mu") => `(tactic| (repeat (first | exact mset_same | assumption | (rw [mset_ne]; rotate_left; (first | assumption | exact Ne.symm (by assumption))))))
local macro_rules | `(tactic| walk_at "lk") => `(tactic| (repeat (first | exact lk_hit | exact lk_nil | refine lk_skip (by decide +kernel) ?_)))
local macro_rules | `(tactic| walk_at "pf") => `(tactic| (repeat (first | rw [pf_nil] | rw [pf_hit] | (rw [pf_skip]; rotate_left; (focus (decide +kernel; done))))))
local macro_rules | `(tactic| walk_at "q") => `(tactic| ((with_reducible conv => whnf); repeat (first
  | (with_reducible refine q_t (by assumption) ?_; with_reducible conv => whnf)
  | (with_reducible refine q_f (by assumption) ?_; with_reducible conv => whnf)
  | (with_reducible refine q_t (by with_reducible rfl) ?_; with_reducible conv => whnf)
  | (with_reducible refine q_f (by with_reducible rfl) ?_; with_reducible conv => whnf)
  | (with_reducible refine q_t (by decide) ?_; with_reducible conv => whnf)
  | (with_reducible refine q_f (by decide) ?_; with_reducible conv => whnf)
  | (with_reducible refine q_t (decide_eq_true (by omega)) ?_; with_reducible conv => whnf)
  | (with_reducible refine q_f (decide_eq_false (by omega)) ?_; with_reducible conv => whnf)
  | (with_reducible refine q_f (q_nn (by omega)) ?_; with_reducible conv => whnf)
  | (with_reducible refine q_t (q_nt (by omega)) ?_; with_reducible conv => whnf)
  | (with_reducible refine q_len (by with_unfolding_all rfl) ?_; with_reducible conv => whnf)
  | (with_reducible refine q_leq (by with_unfolding_all rfl) ?_; with_reducible conv => whnf)
  | (with_reducible refine q_and (by first | assumption | exact True.intro | omega | (simp only [List.length_map, List.length_append, List.length_cons, List.length_nil]; omega) | decide) ?_; with_reducible conv => whnf)
  | (with_reducible refine q_le (by with_unfolding_all rfl) ?_; with_reducible conv => whnf)
  | (with_reducible refine q_and tyL_lst ?_; with_reducible conv => whnf)
  | (with_reducible refine q_and tyL_rol ?_; with_reducible conv => whnf)
  | (with_reducible refine q_and (tyL_ref (by walk_at "mu")) ?_; with_reducible conv => whnf)
  | (with_reducible refine q_and (tyD_ref (by walk_at "mu")) ?_; with_reducible conv => whnf)
  | (with_reducible refine q_and (rdD_ref (by walk_at "mu")) ?_; with_reducible conv => whnf)
  | (rw [pick_c0]; with_reducible conv => whnf)
  | (rw [pick_c1]; with_reducible conv => whnf)
  | (rw [pick_c2]; with_reducible conv => whnf)
  | (rw [pick_c3]; with_reducible conv => whnf)
  | (rw [pick_c4]; with_reducible conv => whnf)
  | (rw [pick_c5]; with_reducible conv => whnf)
  | (rw [mset_same]; with_reducible conv => whnf)
  | (rw [mset_ne (by assumption)]; with_reducible conv => whnf)
  | (rw [mset_ne]; rotate_left; (first | assumption | exact Ne.symm (by assumption)); with_reducible conv => whnf)
  | (rw [rdL_ref]; rotate_left; (focus (walk_at "mu"; done)); with_reducible conv => whnf)
  | (rw [rdL_refD]; rotate_left; (focus (walk_at "mu"; done)); with_reducible conv => whnf)
  | (rw [rdD_refD]; rotate_left; (focus (walk_at "mu"; done)); with_reducible conv => whnf)
  | (rw [rdM_ref]; rotate_left; (focus (walk_at "mu"; done)); with_reducible conv => whnf)
  | (rw [rdL_refK]; rotate_left; (focus (walk_at "mu"; done)); with_reducible conv => whnf)
  | (rw [rdD_refK]; rotate_left; (focus (walk_at "mu"; done)); with_reducible conv => whnf)
  | (rw [tyW_refL]; rotate_left; (focus (walk_at "mu"; done)); with_reducible conv => whnf)
  | (rw [tyW_refD]; rotate_left; (focus (walk_at "mu"; done)); with_reducible conv => whnf)
  | (rw [drf_ref]; rotate_left; (focus (walk_at "mu"; done)); with_reducible conv => whnf)
  | ((conv => (arg 2; tactic' => (walk_at "mu"; done))); with_reducible conv => whnf)
  | (with_reducible refine q_and (Eq.refl _) ?_; with_reducible conv => whnf)
  | (with_reducible refine q_and (MulO.r (by decide)) ?_; with_reducible conv => whnf)
  | (with_reducible refine q_and (MulO.l (by decide)) ?_; with_reducible conv => whnf)
  | (with_reducible refine q_and (MulO.r (by omega)) ?_; with_reducible conv => whnf)
  | (with_reducible refine q_and (MulO.l (by omega)) ?_; with_reducible conv => whnf)
  | (with_reducible refine q_pow (by decide) ?_; with_reducible conv => whnf)
  | (with_reducible refine q_nisT (by first | assumption | with_reducible rfl) ?_; with_reducible conv => whnf)
  | (with_reducible refine q_nisF (by first | assumption | with_reducible rfl) ?_; with_reducible conv => whnf)
  | (with_reducible refine q_eqI ?_; with_reducible conv => whnf)
  | (with_reducible refine q_eqS ?_; with_reducible conv => whnf)
  | (with_reducible refine q_eqB ?_; with_reducible conv => whnf)
  | (with_reducible refine q_neI ?_; with_reducible conv => whnf)
  | (with_reducible refine q_neS ?_; with_reducible conv => whnf)
  | (with_reducible refine q_neB ?_; with_reducible conv => whnf)
  | (with_reducible refine q_memc ?_; with_reducible conv => whnf)
  | (with_reducible refine q_lkn (by walk_at "lk") ?_; with_reducible conv => whnf)
  | (with_reducible refine q_tix (by walk_at "lk"; done) ?_; with_reducible conv => whnf)
  | (with_reducible refine q_tin ?_; with_reducible conv => whnf)
  | (rw [pf_hit]; with_reducible conv => whnf)
  | (rw [pf_skip]; rotate_left; (focus (decide +kernel; done)); with_reducible conv => whnf)
  | (rw [lk_hit]; with_reducible conv => whnf)
  | (rw [lk_skip1]; rotate_left; (focus (decide +kernel; done)); with_reducible conv => whnf))))
/-! what the law knows -/
namespace C4
section
open Mspan
variable {μ : Mu} {P : Po} {X : Xo} {M q d kn : Addr} {n : Nat} {L : List Cell} {qs : List Op} {rows : List W}
def ce : Cell → W
  | none => .non
  | some (i, r) => .tup [.int r.ep, .int r.x, .int i, ew r]
theorem ce_D (c : Cell) : isD 60 (ce c) = true := by
  cases c with
  | none => rfl
  | some c =>
    obtain ⟨i, r⟩ := c
    obtain ⟨a1, a2, a3, a4, a5, a6⟩ := r
    cases a2 <;> rfl
theorem ce_eq (c d : Cell) : eqW (ce c) (ce d) = decide (c = d) := by
  cases c with
  | none =>
    cases d with
    | none => rfl
    | some d => rfl
  | some c =>
    cases d with
    | none => rfl
    | some d =>
      obtain ⟨i, r⟩ := c
      obtain ⟨j, u⟩ := d
      show ((r.ep == u.ep) && ((r.x == u.x) && ((i == j) && (eqW (ew r) (ew u) && true)))) = _
      rw [ew_eq]
      by_cases c : r = u
      · subst c
        have e : (i == j) = decide (i = j) := rfl
        simp [e]
      · simp [c]
def mdK (n : Nat) (q d kn : Addr) : List (Key × W) := [(.inr "count", .int (n : Int)), (.inr "queue", .ref q), (.inr "done", .ref d), (.inr "routes", .ref kn)]
theorem md_n : valW (mdK n q d kn) (.inr "count") = some (.int (n : Int)) := rfl
theorem md_q : valW (mdK n q d kn) (.inr "queue") = some (.ref q) := rfl
theorem md_d : valW (mdK n q d kn) (.inr "done") = some (.ref d) := rfl
theorem md_k : valW (mdK n q d kn) (.inr "routes") = some (.ref kn) := rfl
structure Md (μ : Mu) (M q d kn : Addr) (n : Nat) (L : List Cell) (qs : List Op) (rows : List W) : Prop where
  m : μ M = some (.dk (mdK n q d kn))
  q : μ q = some (.ls (qs.map Op.w))
  d : μ d = some (.ls rows)
  k : μ kn = some (.ls (L.map ce))
theorem sp_part {z : Str} (k : P (.int (part z : Int)) μ) : f__law_part [.str z] μ P X := by
  rw [f__law_part_eq]; unfold f__law_part_B fDef
  refine ⟨rfl, ?_⟩
  walk_at "q"
  refine itS_of W.str (fun dn rest ρ μ' => μ' = μ ∧ dn ++ rest = (["d", "k", "m"] : List Str) ∧ ∃ x2 : Option W, ρ = [some (.str z), some (.int ((dn.filter fun c => !sLt z c).length : Int)), x2]) ["d", "k", "m"] [] ⟨rfl, rfl, none, rfl⟩ ?_ ?_
  · rintro dn c rest ρ μ' ⟨rfl, e, x2, rfl⟩
    refine ⟨rfl, fun K hK => ?_⟩
    walk_at "q"
    cases cc : sLt z c with
    | true =>
      walk_at "q"
      refine hK _ _ ⟨rfl, by rw [← e]; simp, some (.str c), ?_⟩
      rw [List.filter_append, List.filter_cons, cc, if_neg (by decide), List.filter_nil, List.append_nil]
    | false =>
      walk_at "q"
      refine hK _ _ ⟨rfl, by rw [← e]; simp, some (.str c), ?_⟩
      rw [List.filter_append, List.filter_cons, cc, if_pos (by decide), List.filter_nil, List.length_append]
      rfl
  · rintro dn ρ μ' ⟨rfl, e, x2, rfl⟩
    refine ⟨rfl, ?_⟩
    rw [List.append_nil] at e
    subst e
    walk_at "q"
    exact Rt.now k
theorem sp_letters (h : Md μ M q d kn n L qs rows) (hL : L.length = 4) (hl : rows.length ≤ qs.length) (hq : qs.length ≤ 1000) (k : P (.lst (dueL L qs rows)) μ) : f__law_letters [.ref M] μ P X := by
  rw [f__law_letters_eq]; unfold f__law_letters_B fDef
  refine ⟨rfl, ?_⟩
  have hm := h.m
  have hqq := h.q
  have hdd := h.d
  have hkk := h.k
  have v1 := md_q (n := n) (q := q) (d := d) (kn := kn)
  have v2 := md_d (n := n) (q := q) (d := d) (kn := kn)
  have v3 := md_k (n := n) (q := q) (d := d) (kn := kn)
  have lm : (qs.map Op.w).length = qs.length := List.length_map _
  cases e : qs[rows.length]? with
  | none =>
    have := List.getElem?_eq_none_iff.mp e
    rw [due_none e] at k
    walk_at "q"
    exact Rt.now k
  | some op =>
    have lt := (List.getElem?_eq_some_iff.mp e).1
    have p1 : pick (qs.map Op.w) ((rows.length : Int) + 1 - 1) = some op.w := by
      rw [Int.add_sub_cancel]
      exact pick_mapN e
    obtain ⟨kd, rs, eo⟩ := op_sh op
    rw [eo] at p1
    have pl := part_lt op.place
    obtain ⟨c, hcc⟩ : ∃ c, L[part op.place]? = some c := ⟨_, List.getElem?_eq_getElem (by omega)⟩
    have p2 : pick (L.map ce) (part op.place : Int) = some (ce c) := pick_mapN hcc
    walk_at "q"
    refine sp_part ?_
    walk_at "q"
    cases c with
    | none =>
      rw [due_where e hcc] at k
      have ec : ce none = .non := rfl
      rw [ec]
      walk_at "q"
      exact Rt.now k
    | some mr =>
      obtain ⟨m, r⟩ := mr
      rw [due_ask e hcc, eo] at k
      have ec : ce (some (m, r)) = .tup [.int r.ep, .int r.x, .int m, ew r] := rfl
      rw [ec]
      walk_at "q"
      exact Rt.now k
end
end C4
end Q
namespace Q
open PySem L2
local macro_rules | `(tactic| walk_at "mu") => `(tactic| (repeat (first | exact mset_same | assumption | (rw [mset_ne]; rotate_left; (first | assumption | exact Ne.symm (by assumption))))))
local macro_rules | `(tactic| walk_at "lk") => `(tactic| (repeat (first | exact lk_hit | exact lk_nil | refine lk_skip (by decide +kernel) ?_)))
local macro_rules | `(tactic| walk_at "pf") => `(tactic| (repeat (first | rw [pf_nil] | rw [pf_hit] | (rw [pf_skip]; rotate_left; (focus (decide +kernel; done))))))
local macro_rules | `(tactic| walk_at "q") => `(tactic| ((with_reducible conv => whnf); repeat (first
  | (with_reducible refine q_t (by assumption) ?_; with_reducible conv => whnf)
  | (with_reducible refine q_f (by assumption) ?_; with_reducible conv => whnf)
  | (with_reducible refine q_t (by with_reducible rfl) ?_; with_reducible conv => whnf)
  | (with_reducible refine q_f (by with_reducible rfl) ?_; with_reducible conv => whnf)
  | (with_reducible refine q_t (by decide) ?_; with_reducible conv => whnf)
  | (with_reducible refine q_f (by decide) ?_; with_reducible conv => whnf)
  | (with_reducible refine q_t (decide_eq_true (by omega)) ?_; with_reducible conv => whnf)
  | (with_reducible refine q_f (decide_eq_false (by omega)) ?_; with_reducible conv => whnf)
  | (with_reducible refine q_f (q_nn (by omega)) ?_; with_reducible conv => whnf)
  | (with_reducible refine q_t (q_nt (by omega)) ?_; with_reducible conv => whnf)
  | (with_reducible refine q_len (by with_unfolding_all rfl) ?_; with_reducible conv => whnf)
  | (with_reducible refine q_leq (by with_unfolding_all rfl) ?_; with_reducible conv => whnf)
  | (with_reducible refine q_and (by first | assumption | exact True.intro | omega | (simp only [List.length_map, List.length_append, List.length_cons, List.length_nil]; omega) | decide) ?_; with_reducible conv => whnf)
  | (with_reducible refine q_le (by with_unfolding_all rfl) ?_; with_reducible conv => whnf)
  | (with_reducible refine q_and tyL_lst ?_; with_reducible conv => whnf)
  | (with_reducible refine q_and tyL_rol ?_; with_reducible conv => whnf)
  | (with_reducible refine q_and (tyL_ref (by walk_at "mu")) ?_; with_reducible conv => whnf)
  | (with_reducible refine q_and (tyD_ref (by walk_at "mu")) ?_; with_reducible conv => whnf)
  | (with_reducible refine q_and (rdD_ref (by walk_at "mu")) ?_; with_reducible conv => whnf)
  | (rw [pick_c0]; with_reducible conv => whnf)
  | (rw [pick_c1]; with_reducible conv => whnf)
  | (rw [pick_c2]; with_reducible conv => whnf)
  | (rw [pick_c3]; with_reducible conv => whnf)
  | (rw [pick_c4]; with_reducible conv => whnf)
  | (rw [pick_c5]; with_reducible conv => whnf)
  | (rw [mset_same]; with_reducible conv => whnf)
  | (rw [mset_ne (by assumption)]; with_reducible conv => whnf)
  | (rw [mset_ne]; rotate_left; (first | assumption | exact Ne.symm (by assumption)); with_reducible conv => whnf)
  | (rw [rdL_ref]; rotate_left; (focus (walk_at "mu"; done)); with_reducible conv => whnf)
  | (rw [rdL_refD]; rotate_left; (focus (walk_at "mu"; done)); with_reducible conv => whnf)
  | (rw [rdD_refD]; rotate_left; (focus (walk_at "mu"; done)); with_reducible conv => whnf)
  | (rw [rdM_ref]; rotate_left; (focus (walk_at "mu"; done)); with_reducible conv => whnf)
  | (rw [rdL_refK]; rotate_left; (focus (walk_at "mu"; done)); with_reducible conv => whnf)
  | (rw [rdD_refK]; rotate_left; (focus (walk_at "mu"; done)); with_reducible conv => whnf)
  | (rw [tyW_refL]; rotate_left; (focus (walk_at "mu"; done)); with_reducible conv => whnf)
  | (rw [tyW_refD]; rotate_left; (focus (walk_at "mu"; done)); with_reducible conv => whnf)
  | (rw [drf_ref]; rotate_left; (focus (walk_at "mu"; done)); with_reducible conv => whnf)
  | ((conv => (arg 2; tactic' => (walk_at "mu"; done))); with_reducible conv => whnf)
  | (with_reducible refine q_and (Eq.refl _) ?_; with_reducible conv => whnf)
  | (with_reducible refine q_and (MulO.r (by decide)) ?_; with_reducible conv => whnf)
  | (with_reducible refine q_and (MulO.l (by decide)) ?_; with_reducible conv => whnf)
  | (with_reducible refine q_and (MulO.r (by omega)) ?_; with_reducible conv => whnf)
  | (with_reducible refine q_and (MulO.l (by omega)) ?_; with_reducible conv => whnf)
  | (with_reducible refine q_pow (by decide) ?_; with_reducible conv => whnf)
  | (with_reducible refine q_nisT (by first | assumption | with_reducible rfl) ?_; with_reducible conv => whnf)
  | (with_reducible refine q_nisF (by first | assumption | with_reducible rfl) ?_; with_reducible conv => whnf)
  | (with_reducible refine q_eqI ?_; with_reducible conv => whnf)
  | (with_reducible refine q_eqS ?_; with_reducible conv => whnf)
  | (with_reducible refine q_eqB ?_; with_reducible conv => whnf)
  | (with_reducible refine q_neI ?_; with_reducible conv => whnf)
  | (with_reducible refine q_neS ?_; with_reducible conv => whnf)
  | (with_reducible refine q_neB ?_; with_reducible conv => whnf)
  | (with_reducible refine q_memc ?_; with_reducible conv => whnf)
  | (with_reducible refine q_lkn (by walk_at "lk") ?_; with_reducible conv => whnf)
  | (with_reducible refine q_tix (by walk_at "lk"; done) ?_; with_reducible conv => whnf)
  | (with_reducible refine q_tin ?_; with_reducible conv => whnf)
  | (rw [pf_hit]; with_reducible conv => whnf)
  | (rw [pf_skip]; rotate_left; (focus (decide +kernel; done)); with_reducible conv => whnf)
  | (rw [lk_hit]; with_reducible conv => whnf)
  | (rw [lk_skip1]; rotate_left; (focus (decide +kernel; done)); with_reducible conv => whnf))))
/-! the law's reports -/
namespace C4
section
open Mspan
variable {μ : Mu} {P : Po} {X : Xo} {M q d kn : Addr} {n : Nat} {L : List Cell} {qs : List Op} {rows : List W}
theorem Md.setK (h : Md μ M q d kn n L qs rows) (n1 : q ≠ kn) (n2 : d ≠ kn) (L' : List Cell) : Md (mset μ kn (.ls (L'.map ce))) M q d kn n L' qs rows := by
  have n3 : M ≠ kn := fun e => by
    have := h.m
    rw [e, h.k] at this
    cases this
  exact ⟨by rw [mset_ne n3, h.m], by rw [mset_ne n1, h.q], by rw [mset_ne n2, h.d], mset_same⟩
def cuts5 : List W := [.str "", .str "d", .str "k", .str "m", .non]
theorem pick_cut {k : Nat} (h : k ≤ 4) : pick cuts5 (k : Int) = some (bw b9 4 k) := by
  refine pick_nat (by omega) ?_
  have key : ∀ k : Fin 5, cuts5[((k.1 : Nat) : Int).toNat]? = some (bw b9 4 k.1) := fun k => by
    match k with
    | ⟨0, _⟩ => rfl
    | ⟨1, _⟩ => rfl
    | ⟨2, _⟩ => rfl
    | ⟨3, _⟩ => rfl
    | ⟨4, _⟩ => rfl
  exact key ⟨k, by omega⟩
theorem upC_out {m : Int} {r : Rep} {lo hi i : Nat} {c : Cell} (h : ¬(lo ≤ i ∧ i < hi)) : upC m r lo hi i c = c := if_neg h
theorem DoneC.base {m : Int} {r : Rep} {lo hi : Nat} {L : List Cell} (hL : L.length = 4) : DoneC (upC m r lo hi) L L lo := by
  refine ⟨hL, fun i => ?_⟩
  by_cases c : i < lo
  · rw [if_pos c]
    cases L[i]? with
    | none => rfl
    | some c => exact congrArg some (upC_out (by omega)).symm
  · rw [if_neg c]
theorem DoneC.full {m : Int} {r : Rep} {lo hi : Nat} {L L' : List Cell} (hL : L.length = 4) (h4 : hi ≤ 4) (h : DoneC (upC m r lo hi) L L' hi) : DoneC (upC m r lo hi) L L' 4 := by
  refine ⟨h.1, fun i => ?_⟩
  rw [h.2 i]
  by_cases c : i < hi
  · rw [if_pos c, if_pos (by omega)]
  · rw [if_neg c]
    by_cases d : i < 4
    · rw [if_pos d]
      cases L[i]? with
      | none => rfl
      | some c => exact congrArg some (upC_out (by omega)).symm
    · rw [if_neg d]
theorem sp_lthere {rich k : Int} (h : Md μ M q d kn n L qs rows) (hn : 1 ≤ n) (n1 : q ≠ kn) (n2 : d ≠ kn) (hL : L.length = 4) (hl : rows.length ≤ qs.length) (hq : qs.length ≤ 1000)
    (kk : ∀ (lo hi : Nat) (ep x : Int) (L' : List Cell), lo < hi → hi ≤ 4 → 1 ≤ ep → ep ≤ 4 → 0 ≤ x → x < n → DoneC (upC k ⟨b9 lo, bo b9 4 hi, ep, x, 0, ""⟩ lo hi) L L' 4 → P (.tup [thereW lo hi ep x, .lst (learnL L' qs rows lo hi)]) (mset μ kn (.ls (L'.map ce)))) : f__law_there [.ref M, .int rich, .int k] μ P X := by
  rw [f__law_there_eq]; unfold f__law_there_B fDef
  refine ⟨rfl, ?_⟩
  have hm := h.m
  have v1 := md_q (n := n) (q := q) (d := d) (kn := kn)
  have v2 := md_d (n := n) (q := q) (d := d) (kn := kn)
  have v3 := md_k (n := n) (q := q) (d := d) (kn := kn)
  have v4 := md_n (n := n) (q := q) (d := d) (kn := kn)
  obtain ⟨lo, elo, hlo⟩ : ∃ lo : Nat, rich % 4 = (lo : Int) ∧ lo < 4 := ⟨(rich % 4).toNat, by omega, by omega⟩
  have b1 : 0 ≤ rich / 4 % (4 - (lo : Int)) := Int.emod_nonneg _ (by omega)
  have b2 : rich / 4 % (4 - (lo : Int)) < 4 - (lo : Int) := Int.emod_lt_of_pos _ (by omega)
  obtain ⟨hi, ehi, h1, h2⟩ : ∃ hi : Nat, (lo : Int) + 1 + rich / 4 % (4 - (lo : Int)) = (hi : Int) ∧ lo < hi ∧ hi ≤ 4 := ⟨((lo : Int) + 1 + rich / 4 % (4 - (lo : Int))).toNat, by omega, by omega, by omega⟩
  have b3 : 0 ≤ rich / 64 % (n : Int) := Int.emod_nonneg _ (by omega)
  have b4 : rich / 64 % (n : Int) < (n : Int) := Int.emod_lt_of_pos _ (by omega)
  have b5 : 1 ≤ 1 + rich / 16 % 4 ∧ 1 + rich / 16 % 4 ≤ 4 := by omega
  walk_at "q"
  rw [elo]
  walk_at "q"
  rw [ehi]
  revert b3 b4 b5
  generalize rich / 64 % (n : Int) = x
  generalize 1 + rich / 16 % 4 = ep
  intro b3 b4 b5
  rw [show ((hi : Int) - (lo : Int)).toNat = hi - lo by omega]
  have kk := fun L' => kk lo hi ep x L' h1 h2 b5.1 b5.2 b3 b4
  have pc1 := pick_cut (k := lo) (by omega)
  have pc2 := pick_cut (k := hi) h2
  unfold cuts5 at pc1 pc2
  have erw : W.tup [bw b9 4 lo, bw b9 4 hi, .int ep, .int x, .int 0, .str ""] = ew ⟨b9 lo, bo b9 4 hi, ep, x, 0, ""⟩ := by
    rw [bw_lt hlo]
    rfl
  generalize hr : (⟨b9 lo, bo b9 4 hi, ep, x, 0, ""⟩ : Rep) = r at kk erw
  have hr1 : r.ep = ep := by rw [← hr]
  have hr2 : r.x = x := by rw [← hr]
  refine itS_nums (fun j ρ μ' => ∃ (L' : List Cell) (x9 : Option W), DoneC (upC k r lo hi) L L' (lo + j) ∧ μ' = mset μ kn (.ls (L'.map ce)) ∧ ρ = [some (.ref M), some (.int rich), some (.int k), some (.lst [.str "", .str "d", .str "k", .str "m", .non]), some (.int (lo : Int)), some (.int (hi : Int)), some (.int ep), some (.int x), some (.ref kn), x9, none, none]) ⟨L, none, DoneC.base hL, (mset_self h.k).symm, rfl⟩ (by intros; trivial) ?_ ?_
  · rintro j hj ρ μ' ⟨L', x9, hD, rfl, rfl⟩ K hK
    obtain ⟨c, hc⟩ : ∃ c, L[lo + j]? = some c := ⟨_, List.getElem?_eq_getElem (by omega)⟩
    have hc' : L'[lo + j]? = some c := by rw [hD.2, if_neg (by omega), hc]
    have p1 : pick (L'.map ce) ((lo : Int) + (j : Int)) = some (ce c) := by
      rw [show (lo : Int) + (j : Int) = ((lo + j : Nat) : Int) by omega]
      exact pick_mapN hc'
    have hix : ixN (L'.map ce).length ((lo : Int) + (j : Int)) = some (lo + j) := by
      rw [show (lo : Int) + (j : Int) = ((lo + j : Nat) : Int) by omega]
      exact ixN_nat (by rw [List.length_map, hD.1]; omega)
    have putR : upC k r lo hi (lo + j) c = some (k, r) → K [some (.ref M), some (.int rich), some (.int k), some (.lst [.str "", .str "d", .str "k", .str "m", .non]), some (.int (lo : Int)), some (.int (hi : Int)), some (.int ep), some (.int x), some (.ref kn), some (.int ((lo : Int) + (j : Int))), none, none]
        (mset (mset μ kn (.ls (L'.map ce))) kn (.ls ((L'.map ce).set (lo + j) (.tup [.int ep, .int x, .int k, .tup [bw b9 4 lo, bw b9 4 hi, .int ep, .int x, .int 0, .str ""]])))) := fun eu => by
      have q := hD.put (by omega) hc
      rw [eu] at q
      rw [mset_mset]
      refine hK _ _ ⟨_, _, q, ?_, rfl⟩
      rw [List.map_set, erw]
      show _ = mset μ kn (.ls ((L'.map ce).set (lo + j) (.tup [.int r.ep, .int r.x, .int k, ew r])))
      rw [hr1, hr2]
    cases c with
    | none =>
      have ec : ce (none : Cell) = .non := rfl
      rw [ec] at p1
      walk_at "q"
      exact putR (if_pos ⟨by omega, by omega⟩)
    | some co =>
      obtain ⟨n0, o⟩ := co
      have ec : ce (some (n0, o)) = .tup [.int o.ep, .int o.x, .int n0, ew o] := rfl
      rw [ec] at p1
      walk_at "q"
      refine q_ifP (fun c2 => ?_) fun c2 => ?_
      · walk_at "q"
        exact putR (by unfold upC; rw [if_pos ⟨by omega, by omega⟩]; exact if_pos (by rw [hr1]; exact c2))
      · walk_at "q"
        refine hK _ _ ⟨L', some (.int ((lo : Int) + (j : Int))), hD.keep hc (by unfold upC; rw [if_pos ⟨by omega, by omega⟩]; exact if_neg (by rw [hr1]; exact c2)), rfl, rfl⟩
  · rintro ρ μ' ⟨L', x9, hD, rfl, rfl⟩
    have hF := hD
    rw [show lo + (hi - lo) = hi by omega] at hF
    have k2 := kk L' (hF.full hL h2)
    have hM := h.setK n1 n2 L'
    have hm' := hM.m
    have hq' := hM.q
    have hd' := hM.d
    have et : thereW lo hi ep x = .tup [.str "there", bw b9 4 lo, bw b9 4 hi, .int ep, .int x] := by
      rw [bw_lt hlo]
      rfl
    rw [et] at k2
    unfold learnL at k2
    have lm : (qs.map Op.w).length = qs.length := List.length_map _
    cases e2 : qs[rows.length]? with
    | none =>
      rw [e2] at k2
      have := List.getElem?_eq_none_iff.mp e2
      walk_at "q"
      exact Rt.now k2
    | some op =>
      rw [e2] at k2
      have k2 : P (.tup [.tup [.str "there", bw b9 4 lo, bw b9 4 hi, .int ep, .int x], .lst (if lo ≤ part op.place ∧ part op.place < hi then dueL L' qs rows else [])]) (mset μ kn (.ls (L'.map ce))) := k2
      have lt := (List.getElem?_eq_some_iff.mp e2).1
      have p1 : pick (qs.map Op.w) ((rows.length : Int) + 1 - 1) = some op.w := by
        rw [Int.add_sub_cancel]
        exact pick_mapN e2
      obtain ⟨kd, rs, eo⟩ := op_sh op
      rw [eo] at p1
      walk_at "q"
      refine sp_part ?_
      walk_at "q"
      refine q_ifP (fun c1 => ?_) fun c1 => ?_
      · walk_at "q"
        refine q_ifP (fun c2 => ?_) fun c2 => ?_
        · rw [if_pos ⟨by omega, by omega⟩] at k2
          walk_at "q"
          refine sp_letters hM hF.1 hl hq ?_
          walk_at "q"
          exact Rt.now k2
        · rw [if_neg (by omega)] at k2
          walk_at "q"
          exact Rt.now k2
      · rw [if_neg (by omega)] at k2
        walk_at "q"
        exact Rt.now k2
end
end C4
end Q
namespace Q
open PySem L2
local macro_rules | `(tactic| walk_at "mu") => `(tactic| (repeat (first | exact mset_same | assumption | (rw [mset_ne]; rotate_left; (first | assumption | exact Ne.symm (by assumption))))))
local macro_rules | `(tactic| walk_at "lk") => `(tactic| (repeat (first | exact lk_hit | exact lk_nil | refine lk_skip (by decide +kernel) ?_)))
local macro_rules | `(tactic| walk_at "pf") => `(tactic| (repeat (first | rw [pf_nil] | rw [pf_hit] | (rw [pf_skip]; rotate_left; (focus (decide +kernel; done))))))
local macro_rules | `(tactic| walk_at "q") => `(tactic| ((with_reducible conv => whnf); repeat (first
  | (with_reducible refine q_t (by assumption) ?_; with_reducible conv => whnf)
  | (with_reducible refine q_f (by assumption) ?_; with_reducible conv => whnf)
  | (with_reducible refine q_t (by with_reducible rfl) ?_; with_reducible conv => whnf)
  | (with_reducible refine q_f (by with_reducible rfl) ?_; with_reducible conv => whnf)
  | (with_reducible refine q_t (by decide) ?_; with_reducible conv => whnf)
  | (with_reducible refine q_f (by decide) ?_; with_reducible conv => whnf)
  | (with_reducible refine q_t (decide_eq_true (by omega)) ?_; with_reducible conv => whnf)
  | (with_reducible refine q_f (decide_eq_false (by omega)) ?_; with_reducible conv => whnf)
  | (with_reducible refine q_f (q_nn (by omega)) ?_; with_reducible conv => whnf)
  | (with_reducible refine q_t (q_nt (by omega)) ?_; with_reducible conv => whnf)
  | (with_reducible refine q_len (by with_unfolding_all rfl) ?_; with_reducible conv => whnf)
  | (with_reducible refine q_leq (by with_unfolding_all rfl) ?_; with_reducible conv => whnf)
  | (with_reducible refine q_and (by first | assumption | exact True.intro | omega | (simp only [List.length_map, List.length_append, List.length_cons, List.length_nil]; omega) | decide) ?_; with_reducible conv => whnf)
  | (with_reducible refine q_le (by with_unfolding_all rfl) ?_; with_reducible conv => whnf)
  | (with_reducible refine q_and tyL_lst ?_; with_reducible conv => whnf)
  | (with_reducible refine q_and tyL_rol ?_; with_reducible conv => whnf)
  | (with_reducible refine q_and (tyL_ref (by walk_at "mu")) ?_; with_reducible conv => whnf)
  | (with_reducible refine q_and (tyD_ref (by walk_at "mu")) ?_; with_reducible conv => whnf)
  | (with_reducible refine q_and (rdD_ref (by walk_at "mu")) ?_; with_reducible conv => whnf)
  | (rw [pick_c0]; with_reducible conv => whnf)
  | (rw [pick_c1]; with_reducible conv => whnf)
  | (rw [pick_c2]; with_reducible conv => whnf)
  | (rw [pick_c3]; with_reducible conv => whnf)
  | (rw [pick_c4]; with_reducible conv => whnf)
  | (rw [pick_c5]; with_reducible conv => whnf)
  | (rw [mset_same]; with_reducible conv => whnf)
  | (rw [mset_ne (by assumption)]; with_reducible conv => whnf)
  | (rw [mset_ne]; rotate_left; (first | assumption | exact Ne.symm (by assumption)); with_reducible conv => whnf)
  | (rw [rdL_ref]; rotate_left; (focus (walk_at "mu"; done)); with_reducible conv => whnf)
  | (rw [rdL_refD]; rotate_left; (focus (walk_at "mu"; done)); with_reducible conv => whnf)
  | (rw [rdD_refD]; rotate_left; (focus (walk_at "mu"; done)); with_reducible conv => whnf)
  | (rw [rdM_ref]; rotate_left; (focus (walk_at "mu"; done)); with_reducible conv => whnf)
  | (rw [rdL_refK]; rotate_left; (focus (walk_at "mu"; done)); with_reducible conv => whnf)
  | (rw [rdD_refK]; rotate_left; (focus (walk_at "mu"; done)); with_reducible conv => whnf)
  | (rw [tyW_refL]; rotate_left; (focus (walk_at "mu"; done)); with_reducible conv => whnf)
  | (rw [tyW_refD]; rotate_left; (focus (walk_at "mu"; done)); with_reducible conv => whnf)
  | (rw [drf_ref]; rotate_left; (focus (walk_at "mu"; done)); with_reducible conv => whnf)
  | ((conv => (arg 2; tactic' => (walk_at "mu"; done))); with_reducible conv => whnf)
  | (with_reducible refine q_and (Eq.refl _) ?_; with_reducible conv => whnf)
  | (with_reducible refine q_and (MulO.r (by decide)) ?_; with_reducible conv => whnf)
  | (with_reducible refine q_and (MulO.l (by decide)) ?_; with_reducible conv => whnf)
  | (with_reducible refine q_and (MulO.r (by omega)) ?_; with_reducible conv => whnf)
  | (with_reducible refine q_and (MulO.l (by omega)) ?_; with_reducible conv => whnf)
  | (with_reducible refine q_pow (by decide) ?_; with_reducible conv => whnf)
  | (with_reducible refine q_nisT (by first | assumption | with_reducible rfl) ?_; with_reducible conv => whnf)
  | (with_reducible refine q_nisF (by first | assumption | with_reducible rfl) ?_; with_reducible conv => whnf)
  | (with_reducible refine q_eqI ?_; with_reducible conv => whnf)
  | (with_reducible refine q_eqS ?_; with_reducible conv => whnf)
  | (with_reducible refine q_eqB ?_; with_reducible conv => whnf)
  | (with_reducible refine q_neI ?_; with_reducible conv => whnf)
  | (with_reducible refine q_neS ?_; with_reducible conv => whnf)
  | (with_reducible refine q_neB ?_; with_reducible conv => whnf)
  | (with_reducible refine q_memc ?_; with_reducible conv => whnf)
  | (with_reducible refine q_lkn (by walk_at "lk") ?_; with_reducible conv => whnf)
  | (with_reducible refine q_tix (by walk_at "lk"; done) ?_; with_reducible conv => whnf)
  | (with_reducible refine q_tin ?_; with_reducible conv => whnf)
  | (rw [pf_hit]; with_reducible conv => whnf)
  | (rw [pf_skip]; rotate_left; (focus (decide +kernel; done)); with_reducible conv => whnf)
  | (rw [lk_hit]; with_reducible conv => whnf)
  | (rw [lk_skip1]; rotate_left; (focus (decide +kernel; done)); with_reducible conv => whnf))))
/-! the law's elsewhere and answer -/
namespace C4
section
open Mspan
variable {μ : Mu} {P : Po} {X : Xo} {M q d kn : Addr} {n : Nat} {L : List Cell} {qs : List Op} {rows : List W}
/-- the cells u .. v without j are cleared -/
def Clr (L L' : List Cell) (j u v : Nat) : Prop := L'.length = 4 ∧ ∀ i, i < 4 → L'[i]? = if u ≤ i ∧ i < v ∧ i ≠ j then some none else L[i]?
theorem Clr.base {j : Nat} (hL : L.length = 4) : Clr L L j j (j + 1) := ⟨hL, fun i _ => by rw [if_neg (by omega)]⟩
theorem Clr.down {L' : List Cell} {j u v : Nat} (h : Clr L L' j (u + 1) v) (hu : u < j) (hv : j < v) (h4 : u < 4) : Clr L (L'.set u none) j u v := by
  refine ⟨by rw [List.length_set]; exact h.1, fun i hi => ?_⟩
  rw [List.getElem?_set]
  by_cases d : u = i
  · rw [if_pos d, if_pos (by rw [h.1]; exact h4), if_pos (by omega)]
  · rw [if_neg d, h.2 i hi]
    by_cases e : u + 1 ≤ i ∧ i < v ∧ i ≠ j
    · rw [if_pos e, if_pos (by omega)]
    · rw [if_neg e, if_neg (by omega)]
theorem Clr.up {L' : List Cell} {j u v : Nat} (h : Clr L L' j u v) (hu : u ≤ j) (hv : j < v) (h4 : v < 4) : Clr L (L'.set v none) j u (v + 1) := by
  refine ⟨by rw [List.length_set]; exact h.1, fun i hi => ?_⟩
  rw [List.getElem?_set]
  by_cases d : v = i
  · rw [if_pos d, if_pos (by rw [h.1]; exact h4), if_pos (by omega)]
  · rw [if_neg d, h.2 i hi]
    by_cases e : u ≤ i ∧ i < v ∧ i ≠ j
    · rw [if_pos e, if_pos (by omega)]
    · rw [if_neg e, if_neg (by omega)]
theorem Clr.done {L' : List Cell} {j s e : Nat} {r : Rep} (hL : L.length = 4) (h : Clr L L' j s e) (h1 : s ≤ j) (h2 : j < e) (h4 : e ≤ 4) : DoneC (dropC (some (s, e, r))) L (L'.set j none) 4 := by
  refine ⟨by rw [List.length_set]; exact h.1, fun i => ?_⟩
  rw [List.getElem?_set]
  by_cases hi : i < 4
  · rw [if_pos hi]
    have hc : L[i]? = some L[i] := List.getElem?_eq_getElem (by omega)
    by_cases d : j = i
    · rw [if_pos d, if_pos (by rw [h.1]; omega), hc]
      show _ = some (if s ≤ i ∧ i < e then none else L[i])
      rw [if_pos (by omega)]
    · rw [if_neg d, h.2 i hi, hc]
      show _ = some (if s ≤ i ∧ i < e then none else L[i])
      by_cases c : s ≤ i ∧ i < e
      · rw [if_pos (by omega), if_pos c]
      · rw [if_neg (by omega), if_neg c]
  · rw [if_neg hi, if_neg (by omega), List.getElem?_eq_none (by rw [h.1]; omega), List.getElem?_eq_none (by omega)]
/-- the piece of a cell: its cells are alike, the next ones are not -/
theorem piece_in (h1 : OneCall L) {s e i j : Nat} {m : Int} {r : Rep} (hx : (s, e, r) ∈ lawP L) (hj : L[j]? = some (some (m, r))) (h2 : s ≤ i) (h3 : i < e) : L[i]? = some (some (m, r)) := by
  obtain ⟨_, m', h⟩ := ((lawP_ok L).2.2 i r).mp ⟨_, hx, h2, h3, rfl⟩
  rw [h, h1 i j m' m r h hj]
theorem nrm_or : ∀ {S : List (Sp Rep)}, Nrm S → ∀ x ∈ S, ∀ y ∈ S, x = y ∨ (x.2.1 ≤ y.1 ∧ ¬(x.2.1 = y.1 ∧ x.2.2 = y.2.2)) ∨ (y.2.1 ≤ x.1 ∧ ¬(y.2.1 = x.1 ∧ y.2.2 = x.2.2))
  | [], _, _, h, _, _ => by cases h
  | a :: S, hs, x, hx, y, hy => by
    obtain ⟨s1, s2⟩ := List.pairwise_cons.mp hs
    rcases List.mem_cons.mp hx with ex | hx' <;> rcases List.mem_cons.mp hy with ey | hy'
    · exact .inl (ex.trans ey.symm)
    · exact .inr (.inl (by rw [ex]; exact s1 y hy'))
    · exact .inr (.inr (by rw [ey]; exact s1 x hx'))
    · exact nrm_or s2 x hx' y hy'
theorem piece_lo {s e : Nat} {m : Int} {r : Rep} (hx : (s, e, r) ∈ lawP L) (h0 : 0 < s) : L[s - 1]? ≠ some (some (m, r)) := fun h => by
  have hp := lawP_ok L
  have hs := (lawP_end L _ hx).1
  have hs : s < 4 := hs
  obtain ⟨y, hy, q1, q2, q3⟩ := (hp.2.2 (s - 1) r).mpr ⟨by omega, m, h⟩
  have p1 : s < e := hp.1 _ hx
  rcases nrm_or hp.2.1 _ hx y hy with z | ⟨z1, z2⟩ | ⟨z1, z2⟩
  · subst z
    have q1 : s ≤ s - 1 := q1
    omega
  · have z1 : e ≤ y.1 := z1
    omega
  · have z1 : y.2.1 ≤ s := z1
    exact z2 ⟨show y.2.1 = s by omega, q3⟩
theorem piece_hi {s e : Nat} {m : Int} {r : Rep} (hx : (s, e, r) ∈ lawP L) (h0 : e < 4) : L[e]? ≠ some (some (m, r)) := fun h => by
  have hp := lawP_ok L
  obtain ⟨y, hy, q1, q2, q3⟩ := (hp.2.2 e r).mpr ⟨by omega, m, h⟩
  have p1 : s < e := hp.1 _ hx
  have p2 : y.1 < y.2.1 := hp.1 _ hy
  rcases nrm_or hp.2.1 _ hx y hy with z | ⟨z1, z2⟩ | ⟨z1, z2⟩
  · subst z
    have q2 : e < e := q2
    omega
  · have z1 : e ≤ y.1 := z1
    exact z2 ⟨show e = y.1 by omega, q3.symm⟩
  · have z1 : y.2.1 ≤ s := z1
    omega
theorem sp_lelse {num sd : Int} (h : Md μ M q d kn n L qs rows) (h1 : OneCall L) (n1 : q ≠ kn) (n2 : d ≠ kn) (hL : L.length = 4) (hl : rows.length ≤ qs.length) (hq : qs.length ≤ 1000) (hnum : 1 ≤ num)
    (k0 : (∀ op m r, isP qs rows num = true → qs[rows.length]? = some op → L[part op.place]? = some (some (m, r)) → r.x ≠ sd) → P (.lst []) μ)
    (k1 : ∀ op m r L', isP qs rows num = true → qs[rows.length]? = some op → L[part op.place]? = some (some (m, r)) → r.x = sd → DoneC (dropC ((lawP L).find? (hasB op.place))) L L' 4 → P (.lst []) (mset μ kn (.ls (L'.map ce)))) :
    f__law_elsewhere [.ref M, .int num, .int sd] μ P X := by
  rw [f__law_elsewhere_eq]; unfold f__law_elsewhere_B fDef
  refine ⟨rfl, ?_⟩
  have hm := h.m
  have hqq := h.q
  have hdd := h.d
  have hkk := h.k
  have v1 := md_q (n := n) (q := q) (d := d) (kn := kn)
  have v2 := md_d (n := n) (q := q) (d := d) (kn := kn)
  have v3 := md_k (n := n) (q := q) (d := d) (kn := kn)
  have lm : (qs.map Op.w).length = qs.length := List.length_map _
  by_cases c1 : num = (rows.length : Int) + 1
  · subst c1
    by_cases c2 : rows.length < qs.length
    · have ep : isP qs rows ((rows.length : Int) + 1) = true := by
        unfold isP
        rw [decide_eq_true c2, decide_eq_true rfl]
        rfl
      have e2 : qs[rows.length]? = some qs[rows.length] := List.getElem?_eq_getElem c2
      revert e2
      generalize qs[rows.length] = op
      intro e2
      have p1 : pick (qs.map Op.w) ((rows.length : Int) + 1 - 1) = some op.w := by
        rw [Int.add_sub_cancel]
        exact pick_mapN e2
      obtain ⟨kd, rs, eo⟩ := op_sh op
      rw [eo] at p1
      have pl := part_lt op.place
      obtain ⟨c, hcc⟩ : ∃ c, L[part op.place]? = some c := ⟨_, List.getElem?_eq_getElem (by omega)⟩
      have p2 : pick (L.map ce) (part op.place : Int) = some (ce c) := pick_mapN hcc
      walk_at "q"
      refine sp_part ?_
      walk_at "q"
      cases c with
      | none =>
        have ec : ce none = .non := rfl
        rw [ec]
        walk_at "q"
        refine Rt.now (k0 fun op' m r _ z1 z2 => ?_)
        rw [e2] at z1
        cases z1
        rw [hcc] at z2
        cases z2
      | some mr =>
        obtain ⟨m, r⟩ := mr
        have ec : ce (some (m, r)) = .tup [.int r.ep, .int r.x, .int m, ew r] := rfl
        rw [ec]
        walk_at "q"
        refine q_ifN (fun c3 => ?_) fun c3 => ?_
        · obtain ⟨s, e, f, g1, g2, hx⟩ := find_part hcc
          have k1 := fun L' => k1 op m r L' ep e2 hcc c3
          rw [f] at k1
          clear ep k0
          have e4 : e ≤ 4 := (lawP_end L _ hx).2
          have setE : ∀ (L' : List Cell) (i : Nat), (L'.map ce).set i .non = (L'.set i none).map ce := fun L' i => by
            rw [List.map_set]
            rfl
          walk_at "q"
          refine itS_of W.int (fun dn rest ρ μ' => ∃ (L' : List Cell) (u v : Nat) (x6 x7 : Option W), dn ++ rest = [-1, 1] ∧ Clr L L' (part op.place) u v ∧ (dn = [] → u = part op.place ∧ v = part op.place + 1) ∧ (dn = [-1] → u = s ∧ v = part op.place + 1) ∧ (dn = [-1, 1] → u = s ∧ v = e) ∧ μ' = mset μ kn (.ls (L'.map ce)) ∧
            ρ = [some (.ref M), some (.int ((rows.length : Int) + 1)), some (.int sd), some (.int (part op.place : Int)), some (.ref kn), some (.tup [.int r.ep, .int r.x, .int m, ew r]), x6, x7]) [-1, 1] [] ⟨L, _, _, none, none, rfl, Clr.base hL, fun _ => ⟨rfl, rfl⟩, fun z => by (cases z), fun z => by (cases z), (mset_self h.k).symm, rfl⟩ ?_ ?_
          · rintro dn w rest ρ μ' ⟨L', u, v, x6, x7, ed, hC, i1, i2, i3, rfl, rfl⟩
            refine ⟨rfl, fun K hK => ?_⟩
            have ew3 : (dn = [] ∧ w = -1 ∧ rest = [1]) ∨ (dn = [-1] ∧ w = 1 ∧ rest = []) := by
              cases dn with
              | nil =>
                cases ed
                exact .inl ⟨rfl, rfl, rfl⟩
              | cons a t =>
                cases t with
                | nil =>
                  cases ed
                  exact .inr ⟨rfl, rfl, rfl⟩
                | cons b t =>
                  have := congrArg List.length ed
                  simp at this
            walk_at "q"
            rcases ew3 with ⟨rfl, rfl, rfl⟩ | ⟨rfl, rfl, rfl⟩
            · obtain ⟨rfl, rfl⟩ := i1 rfl
              refine itWh.mk (fun t ρ μ' => ∃ (L' : List Cell) (u : Nat) (i : Int), t = u - s ∧ s ≤ u ∧ u ≤ part op.place ∧ i = (u : Int) - 1 ∧ Clr L L' (part op.place) u (part op.place + 1) ∧ μ' = mset μ kn (.ls (L'.map ce)) ∧
                ρ = [some (.ref M), some (.int ((rows.length : Int) + 1)), some (.int sd), some (.int (part op.place : Int)), some (.ref kn), some (.tup [.int r.ep, .int r.x, .int m, ew r]), some (.int (-1)), some (.int i)]) (part op.place - s) ⟨L', part op.place, (part op.place : Int) + -1, rfl, g1, Nat.le_refl _, rfl, hC, rfl, rfl⟩ ?_
              rintro t ρ μ' ⟨L2, u, i, et, hu1, hu2, ei, hC2, rfl, rfl⟩
              by_cases u0 : u = 0
              · subst u0
                walk_at "q"
                exact hK _ _ ⟨L2, s, part op.place + 1, _, _, ed, by rw [show s = 0 by omega]; exact hC2, fun z => (by cases z), fun _ => ⟨rfl, rfl⟩, fun z => (by cases z), rfl, rfl⟩
              · obtain ⟨c', hc'⟩ : ∃ c', L[u - 1]? = some c' := ⟨_, List.getElem?_eq_getElem (by omega)⟩
                have q1 : L2[u - 1]? = some c' := by rw [hC2.2 _ (by omega), if_neg (by omega), hc']
                have q2 : pick (L2.map ce) i = some (ce c') := by
                  rw [show i = ((u - 1 : Nat) : Int) by omega]
                  exact pick_mapN q1
                have hix : ixN (L2.map ce).length i = some (u - 1) := by
                  rw [show i = ((u - 1 : Nat) : Int) by omega]
                  exact ixN_nat (by rw [List.length_map, hC2.1]; omega)
                (with_reducible conv => whnf); refine q_t (decide_eq_true (by omega)) ?_; (with_reducible conv => whnf); refine q_t (decide_eq_true (by omega)) ?_; (with_reducible conv => whnf)
                (rw [rdL_ref]; rotate_left; (focus (walk_at "mu"; done)); with_reducible conv => whnf)
                rw [q2]
                (with_reducible conv => whnf)
                refine wEqu_data (ce_D _) (by rw [← ec]; exact ce_D _) ?_
                rw [← ec, ce_eq, ec]
                refine q_ifP (fun c5 => ?_) fun c5 => ?_
                · have su : s ≤ u - 1 := by
                    by_cases z : s ≤ u - 1
                    · exact z
                    · have : u = s := by omega
                      subst this
                      exact absurd (by rw [hc', c5]) (piece_lo hx (m := m) (by omega))
                  walk_at "q"
                  rw [setE, mset_mset]
                  have hC3 := Clr.down (u := u - 1) (v := part op.place + 1) (L' := L2) (L := L) (j := part op.place) (by rw [show u - 1 + 1 = u by omega]; exact hC2) (by omega) (by omega) (by omega)
                  exact ⟨u - 1 - s, by omega, L2.set (u - 1) none, u - 1, i + -1, rfl, su, by omega, by omega, hC3, rfl, rfl⟩
                · have su : u = s := by
                    by_cases z : s ≤ u - 1
                    · have := piece_in h1 hx hcc z (by omega)
                      rw [hc'] at this
                      exact absurd (Option.some.inj this) c5
                    · omega
                  subst su
                  walk_at "q"
                  exact hK _ _ ⟨L2, u, part op.place + 1, _, _, ed, hC2, fun z => (by cases z), fun _ => ⟨rfl, rfl⟩, fun z => (by cases z), rfl, rfl⟩
            · obtain ⟨eu, rfl⟩ := i2 rfl
              subst eu
              have g3 : u ≤ part op.place := g1
              refine itWh.mk (fun t ρ μ' => ∃ (L' : List Cell) (v : Nat) (i : Int), t = e - v ∧ part op.place < v ∧ v ≤ e ∧ i = (v : Int) ∧ Clr L L' (part op.place) u v ∧ μ' = mset μ kn (.ls (L'.map ce)) ∧
                ρ = [some (.ref M), some (.int ((rows.length : Int) + 1)), some (.int sd), some (.int (part op.place : Int)), some (.ref kn), some (.tup [.int r.ep, .int r.x, .int m, ew r]), some (.int 1), some (.int i)]) (e - (part op.place + 1)) ⟨L', part op.place + 1, (part op.place : Int) + 1, rfl, by omega, by omega, by omega, hC, rfl, rfl⟩ ?_
              rintro t ρ μ' ⟨L2, v, i, et, hv1, hv2, ei, hC2, rfl, rfl⟩
              by_cases v4 : v = 4
              · subst v4
                have : e = 4 := by omega
                subst this
                walk_at "q"
                exact hK _ _ ⟨L2, u, 4, some (.int 1), some (.int i), ed, hC2, fun z => (by cases z), fun z => (by cases z), fun _ => ⟨rfl, rfl⟩, rfl, rfl⟩
              · obtain ⟨c', hc'⟩ : ∃ c', L[v]? = some c' := ⟨_, List.getElem?_eq_getElem (by omega)⟩
                have q1 : L2[v]? = some c' := by rw [hC2.2 _ (by omega), if_neg (by omega), hc']
                have q2 : pick (L2.map ce) i = some (ce c') := by
                  rw [ei]
                  exact pick_mapN q1
                have hix : ixN (L2.map ce).length i = some v := by
                  rw [ei]
                  exact ixN_nat (by rw [List.length_map, hC2.1]; omega)
                (with_reducible conv => whnf); refine q_t (decide_eq_true (by omega)) ?_; (with_reducible conv => whnf); refine q_t (decide_eq_true (by omega)) ?_; (with_reducible conv => whnf)
                (rw [rdL_ref]; rotate_left; (focus (walk_at "mu"; done)); with_reducible conv => whnf)
                rw [q2]
                (with_reducible conv => whnf)
                refine wEqu_data (ce_D _) (by rw [← ec]; exact ce_D _) ?_
                rw [← ec, ce_eq, ec]
                refine q_ifP (fun c5 => ?_) fun c5 => ?_
                · have ve : v < e := by
                    by_cases z : v < e
                    · exact z
                    · have : v = e := by omega
                      subst this
                      exact absurd (by rw [hc', c5]) (piece_hi hx (m := m) (by omega))
                  walk_at "q"
                  rw [setE, mset_mset]
                  have hC3 := Clr.up (L' := L2) (L := L) hC2 (by omega) hv1 (by omega)
                  exact ⟨e - (v + 1), by omega, L2.set v none, v + 1, i + 1, rfl, by omega, by omega, by omega, hC3, rfl, rfl⟩
                · have ve : v = e := by
                    by_cases z : v < e
                    · have := piece_in h1 hx hcc (by omega) z
                      rw [hc'] at this
                      exact absurd (Option.some.inj this) c5
                    · omega
                  subst ve
                  walk_at "q"
                  exact hK _ _ ⟨L2, u, v, some (.int 1), some (.int i), ed, hC2, fun z => (by cases z), fun z => (by cases z), fun _ => ⟨rfl, rfl⟩, rfl, rfl⟩
          · rintro dn ρ μ' ⟨L', u, v, x6, x7, ed, hC, i1, i2, i3, rfl, rfl⟩
            refine ⟨rfl, ?_⟩
            rw [List.append_nil] at ed
            obtain ⟨rfl, rfl⟩ := i3 ed
            have hix : ixN (L'.map ce).length (part op.place : Int) = some (part op.place) := ixN_nat (by rw [List.length_map, hC.1]; omega)
            walk_at "q"
            rw [setE, mset_mset]
            exact Rt.now (k1 _ (Clr.done hL hC g1 g2 e4))
        · walk_at "q"
          refine Rt.now (k0 fun op' m' r' _ z1 z2 => ?_)
          rw [e2] at z1
          cases z1
          rw [hcc] at z2
          cases z2
          exact c3
    · walk_at "q"
      exact Rt.now (k0 fun _ _ _ z => by
        unfold isP at z
        rw [decide_eq_false c2] at z
        cases z)
  · walk_at "q"
    exact Rt.now (k0 fun _ _ _ z => by
      have z2 := Bool.and_eq_true_iff.mp (show (decide (rows.length < qs.length) && decide ((rows.length : Int) + 1 = num)) = true from z)
      exact absurd (of_decide_eq_true z2.2).symm c1)
end
end C4
end Q
namespace Q
open PySem L2
local macro_rules | `(tactic| walk_at "mu") => `(tactic| (repeat (first | exact mset_same | assumption | (rw [mset_ne]; rotate_left; (first | assumption | exact Ne.symm (by assumption))))))
local macro_rules | `(tactic| walk_at "lk") => `(tactic| (repeat (first | exact lk_hit | exact lk_nil | refine lk_skip (by decide +kernel) ?_)))
local macro_rules | `(tactic| walk_at "pf") => `(tactic| (repeat (first | rw [pf_nil] | rw [pf_hit] | (rw [pf_skip]; rotate_left; (focus (decide +kernel; done))))))
local macro_rules | `(tactic| walk_at "q") => `(tactic| ((with_reducible conv => whnf); repeat (first
  | (with_reducible refine q_t (by assumption) ?_; with_reducible conv => whnf)
  | (with_reducible refine q_f (by assumption) ?_; with_reducible conv => whnf)
  | (with_reducible refine q_t (by with_reducible rfl) ?_; with_reducible conv => whnf)
  | (with_reducible refine q_f (by with_reducible rfl) ?_; with_reducible conv => whnf)
  | (with_reducible refine q_t (by decide) ?_; with_reducible conv => whnf)
  | (with_reducible refine q_f (by decide) ?_; with_reducible conv => whnf)
  | (with_reducible refine q_t (decide_eq_true (by omega)) ?_; with_reducible conv => whnf)
  | (with_reducible refine q_f (decide_eq_false (by omega)) ?_; with_reducible conv => whnf)
  | (with_reducible refine q_f (q_nn (by omega)) ?_; with_reducible conv => whnf)
  | (with_reducible refine q_t (q_nt (by omega)) ?_; with_reducible conv => whnf)
  | (with_reducible refine q_len (by with_unfolding_all rfl) ?_; with_reducible conv => whnf)
  | (with_reducible refine q_leq (by with_unfolding_all rfl) ?_; with_reducible conv => whnf)
  | (with_reducible refine q_and (by first | assumption | exact True.intro | omega | (simp only [List.length_map, List.length_append, List.length_cons, List.length_nil]; omega) | decide) ?_; with_reducible conv => whnf)
  | (with_reducible refine q_le (by with_unfolding_all rfl) ?_; with_reducible conv => whnf)
  | (with_reducible refine q_and tyL_lst ?_; with_reducible conv => whnf)
  | (with_reducible refine q_and tyL_rol ?_; with_reducible conv => whnf)
  | (with_reducible refine q_and (tyL_ref (by walk_at "mu")) ?_; with_reducible conv => whnf)
  | (with_reducible refine q_and (tyD_ref (by walk_at "mu")) ?_; with_reducible conv => whnf)
  | (with_reducible refine q_and (rdD_ref (by walk_at "mu")) ?_; with_reducible conv => whnf)
  | (rw [pick_c0]; with_reducible conv => whnf)
  | (rw [pick_c1]; with_reducible conv => whnf)
  | (rw [pick_c2]; with_reducible conv => whnf)
  | (rw [pick_c3]; with_reducible conv => whnf)
  | (rw [pick_c4]; with_reducible conv => whnf)
  | (rw [pick_c5]; with_reducible conv => whnf)
  | (rw [mset_same]; with_reducible conv => whnf)
  | (rw [mset_ne (by assumption)]; with_reducible conv => whnf)
  | (rw [mset_ne]; rotate_left; (first | assumption | exact Ne.symm (by assumption)); with_reducible conv => whnf)
  | (rw [rdL_ref]; rotate_left; (focus (walk_at "mu"; done)); with_reducible conv => whnf)
  | (rw [rdL_refD]; rotate_left; (focus (walk_at "mu"; done)); with_reducible conv => whnf)
  | (rw [rdD_refD]; rotate_left; (focus (walk_at "mu"; done)); with_reducible conv => whnf)
  | (rw [rdM_ref]; rotate_left; (focus (walk_at "mu"; done)); with_reducible conv => whnf)
  | (rw [rdL_refK]; rotate_left; (focus (walk_at "mu"; done)); with_reducible conv => whnf)
  | (rw [rdD_refK]; rotate_left; (focus (walk_at "mu"; done)); with_reducible conv => whnf)
  | (rw [tyW_refL]; rotate_left; (focus (walk_at "mu"; done)); with_reducible conv => whnf)
  | (rw [tyW_refD]; rotate_left; (focus (walk_at "mu"; done)); with_reducible conv => whnf)
  | (rw [drf_ref]; rotate_left; (focus (walk_at "mu"; done)); with_reducible conv => whnf)
  | ((conv => (arg 2; tactic' => (walk_at "mu"; done))); with_reducible conv => whnf)
  | (with_reducible refine q_and (Eq.refl _) ?_; with_reducible conv => whnf)
  | (with_reducible refine q_and (MulO.r (by decide)) ?_; with_reducible conv => whnf)
  | (with_reducible refine q_and (MulO.l (by decide)) ?_; with_reducible conv => whnf)
  | (with_reducible refine q_and (MulO.r (by omega)) ?_; with_reducible conv => whnf)
  | (with_reducible refine q_and (MulO.l (by omega)) ?_; with_reducible conv => whnf)
  | (with_reducible refine q_pow (by decide) ?_; with_reducible conv => whnf)
  | (with_reducible refine q_nisT (by first | assumption | with_reducible rfl) ?_; with_reducible conv => whnf)
  | (with_reducible refine q_nisF (by first | assumption | with_reducible rfl) ?_; with_reducible conv => whnf)
  | (with_reducible refine q_eqI ?_; with_reducible conv => whnf)
  | (with_reducible refine q_eqS ?_; with_reducible conv => whnf)
  | (with_reducible refine q_eqB ?_; with_reducible conv => whnf)
  | (with_reducible refine q_neI ?_; with_reducible conv => whnf)
  | (with_reducible refine q_neS ?_; with_reducible conv => whnf)
  | (with_reducible refine q_neB ?_; with_reducible conv => whnf)
  | (with_reducible refine q_memc ?_; with_reducible conv => whnf)
  | (with_reducible refine q_lkn (by walk_at "lk") ?_; with_reducible conv => whnf)
  | (with_reducible refine q_tix (by walk_at "lk"; done) ?_; with_reducible conv => whnf)
  | (with_reducible refine q_tin ?_; with_reducible conv => whnf)
  | (rw [pf_hit]; with_reducible conv => whnf)
  | (rw [pf_skip]; rotate_left; (focus (decide +kernel; done)); with_reducible conv => whnf)
  | (rw [lk_hit]; with_reducible conv => whnf)
  | (rw [lk_skip1]; rotate_left; (focus (decide +kernel; done)); with_reducible conv => whnf))))
/-! the law's answer, pieces -/
namespace C4
section
open Mspan
variable {μ : Mu} {P : Po} {X : Xo} {M q d kn : Addr} {n : Nat} {L : List Cell} {qs : List Op} {rows : List W}
theorem Md.app (h : Md μ M q d kn n L qs rows) (n1 : q ≠ kn) (n2 : q ≠ d) (op : Op) : Md (mset μ q (.ls ((qs ++ [op]).map Op.w))) M q d kn n L (qs ++ [op]) rows := by
  have n3 : M ≠ q := fun e => by
    have := h.m
    rw [e, h.q] at this
    cases this
  exact ⟨by rw [mset_ne n3, h.m], mset_same, by rw [mset_ne (Ne.symm n2), h.d], by rw [mset_ne (Ne.symm n1), h.k]⟩
theorem Md.acc (h : Md μ M q d kn n L qs rows) (n1 : d ≠ kn) (n2 : d ≠ q) (w : W) : Md (mset μ d (.ls (rows ++ [w]))) M q d kn n L qs (rows ++ [w]) := by
  have n3 : M ≠ d := fun e => by
    have := h.m
    rw [e, h.d] at this
    cases this
  exact ⟨by rw [mset_ne n3, h.m], by rw [mset_ne (Ne.symm n2), h.q], mset_same, by rw [mset_ne (Ne.symm n1), h.k]⟩
theorem sp_lanswer {num : Int} {an : W} (h : Md μ M q d kn n L qs rows) (n1 : d ≠ kn) (n2 : d ≠ q) (hL : L.length = 4) (hl : rows.length ≤ qs.length) (hq : qs.length ≤ 1000)
    (k0 : isP qs rows num = false → P (.lst []) μ)
    (k1 : ∀ op, isP qs rows num = true → qs[rows.length]? = some op → P (.lst (dueL L qs (rows ++ [.tup [.int num, op.w, an]]))) (mset μ d (.ls (rows ++ [.tup [.int num, op.w, an]])))) :
    f__law_answer [.ref M, .int num, an] μ P X := by
  rw [f__law_answer_eq]; unfold f__law_answer_B fDef
  refine ⟨rfl, ?_⟩
  have hm := h.m
  have hqq := h.q
  have hdd := h.d
  have v1 := md_q (n := n) (q := q) (d := d) (kn := kn)
  have v2 := md_d (n := n) (q := q) (d := d) (kn := kn)
  have lm : (qs.map Op.w).length = qs.length := List.length_map _
  by_cases c1 : num = (rows.length : Int) + 1
  · subst c1
    by_cases c2 : rows.length < qs.length
    · have ep : isP qs rows ((rows.length : Int) + 1) = true := by
        unfold isP
        rw [decide_eq_true c2, decide_eq_true rfl]
        rfl
      have e2 : qs[rows.length]? = some qs[rows.length] := List.getElem?_eq_getElem c2
      revert e2
      generalize qs[rows.length] = op
      intro e2
      have k1 := k1 op ep e2
      clear ep k0
      have p1 : pick (qs.map Op.w) ((rows.length : Int) + 1 - 1) = some op.w := by
        rw [Int.add_sub_cancel]
        exact pick_mapN e2
      have h2 := h.acc n1 n2 (.tup [.int ((rows.length : Int) + 1), op.w, an])
      walk_at "q"
      refine sp_letters h2 hL (by rw [List.length_append]; show rows.length + 1 ≤ _; omega) hq ?_
      exact Rt.now k1
    · have z : isP qs rows ((rows.length : Int) + 1) = false := by
        unfold isP
        rw [decide_eq_false c2]
        rfl
      have k0 := k0 z
      clear z
      walk_at "q"
      exact Rt.now k0
  · have z : isP qs rows num = false := by
      unfold isP
      rw [decide_eq_false (fun e => c1 e.symm : ¬((rows.length : Int) + 1 = num)), Bool.and_false]
    have k0 := k0 z
    clear z
    walk_at "q"
    exact Rt.now k0
theorem sp_lpieces {L : List Cell} (hL : L.length = 4) (h1 : OneCall L) {kn : Addr} {μ : Mu} {P : Po} {X : Xo} (hk : μ kn = some (.ls (L.map ce))) (k : ∀ p, μ p = none → P (.ref p) (mset μ p (.ls ((fuse (upTo L 4)).map enR)))) : f__law_pieces_2 [.ref kn] μ P X := by
  rw [f__law_pieces_2_eq]; unfold f__law_pieces_2_B fDef
  refine ⟨rfl, ?_⟩
  walk_at "q"
  intro p hpn
  have pk : p ≠ kn := fun e => by
    rw [e, hk] at hpn
    cases hpn
  walk_at "q"
  refine itS_nums (fun k ρ μ' => ∃ (R : List (Sp Rep)) (last : Cell) (x4 x5 : Option W), R = (upTo L k).foldl step [] ∧ R.length ≤ k ∧ (last = if k = 0 then none else (L[k - 1]?).getD none) ∧ (∀ n r, last = some (n, r) → ∃ l t, R = l :: t ∧ l.2.1 = k ∧ l.2.2 = r) ∧ (last = none → ∀ l t, R = l :: t → l.2.1 < k) ∧ (∀ l ∈ R, l.1 < 4) ∧
    μ' = mset μ p (.ls (R.reverse.map enR)) ∧ ρ = [some (.ref kn), some (.lst cuts5), some (.ref p), some (ce last), x4, x5]) ⟨[], none, none, none, rfl, Nat.le_refl _, rfl, fun n r z => (by cases z), fun _ l t z => (by cases z), fun l z => (by cases z), rfl, rfl⟩ (by intros; trivial) ?_ ?_
  · rintro k hk9 ρ μ' ⟨R, last, x4, x5, hR, hRl, hlast, hs, hn, hR9, rfl, rfl⟩ K hK
    have hk9 : k < 4 := hk9
    obtain ⟨c, hc⟩ : ∃ c, L[k]? = some c := ⟨L[k]'(by omega), List.getElem?_eq_getElem (by omega)⟩
    have p1 : pick (L.map ce) (0 + (k : Int)) = some (ce c) := by
      rw [Int.zero_add]
      exact pick_nat (by omega) (by rw [Int.toNat_natCast, List.getElem?_map, hc]; rfl)
    have p2 : pick cuts5 (0 + (k : Int)) = some (bw b9 4 k) := by
      rw [Int.zero_add]
      exact pick_cut (by omega)
    have p3 : pick cuts5 (0 + (k : Int) + 1) = some (bw b9 4 (k + 1)) := by
      rw [Int.zero_add]
      exact pick_cut (k := k + 1) (by omega)
    have lastN : (if k + 1 = 0 then none else (L[k + 1 - 1]?).getD none) = c := by
      rw [if_neg (by omega), Nat.add_sub_cancel, hc]
      rfl
    have lR : (R.reverse.map enR).length ≤ 4 := by
      rw [List.length_map, List.length_reverse]
      omega
    walk_at "q"
    cases c with
    | none =>
      have eU : upTo L (k + 1) = upTo L k := by
        rw [upTo_succ]
        have : cellU L k = none := by
          unfold cellU
          rw [hc]
        rw [this, List.append_nil]
      have ec : ce (none : Cell) = .non := rfl
      rw [ec]
      refine q_jn (fun ρ' μ' => ρ' = [some (.ref kn), some (.lst cuts5), some (.ref p), some (ce last), some (.int (0 + (k : Int))), some .non] ∧ μ' = mset μ p (.ls (R.reverse.map enR))) (fun M hM => ?_) ?_
      · walk_at "q"
        exact hM _ _ ⟨rfl, rfl⟩
      · rintro _ _ ⟨rfl, rfl⟩
        walk_at "q"
        refine hK _ _ ⟨R, none, _, _, by rw [eU]; exact hR, by omega, lastN.symm, fun n r z => (by cases z), fun _ l t z => ?_, hR9, rfl, rfl⟩
        cases last with
        | none =>
          have := hn rfl l t z
          omega
        | some cr =>
          obtain ⟨l', t', z1, z2, z3⟩ := hs cr.1 cr.2 rfl
          rw [z] at z1
          cases z1
          omega
    | some cr =>
      obtain ⟨n, r⟩ := cr
      have eU : upTo L (k + 1) = upTo L k ++ [(k, k + 1, r)] := by
        rw [upTo_succ]
        have : cellU L k = some (k, k + 1, r) := by
          unfold cellU
          rw [hc]
        rw [this]
      have eF : (upTo L (k + 1)).foldl step [] = step R (k, k + 1, r) := by
        rw [eU, List.foldl_append, ← hR]
        rfl
      have ec : ce (some (n, r)) = .tup [.int r.ep, .int r.x, .int n, ew r] := rfl
      have ekk : en b9 4 ew (k, k + 1, r) = .tup [bw b9 4 k, bw b9 4 (k + 1), ew r] := rfl
      rw [ec]
      refine q_jn (fun ρ' μ' => ρ' = [some (.ref kn), some (.lst cuts5), some (.ref p), some (ce last), some (.int (0 + (k : Int))), some (.tup [.int r.ep, .int r.x, .int n, ew r])] ∧ μ' = mset μ p (.ls ((step R (k, k + 1, r)).reverse.map enR))) (fun M hM => ?_) ?_
      · walk_at "q"
        refine wEqu_data (by rw [← ec]; exact ce_D _) (ce_D _) ?_
        rw [← ec, ce_eq, ec]
        refine q_ifP (fun c1 => ?_) fun c1 => ?_
        · obtain ⟨⟨ls, le, lv⟩, t, rfl, z2, z3⟩ := hs n r c1.symm
          simp only at z2 z3
          have st : step (((ls, le, lv) : Sp Rep) :: t) (k, k + 1, r) = (ls, k + 1, r) :: t := if_pos ⟨z2, z3⟩
          rw [st] at hM
          have eL : (((ls, le, lv) : Sp Rep) :: t).reverse.map enR = t.reverse.map enR ++ [.tup [bw b9 4 ls, bw b9 4 le, ew lv]] := by simp [en]
          have eN : (((ls, k + 1, r) : Sp Rep) :: t).reverse.map enR = t.reverse.map enR ++ [.tup [bw b9 4 ls, bw b9 4 (k + 1), ew r]] := by simp [en]
          have pl : pick (t.reverse.map enR ++ [.tup [bw b9 4 ls, bw b9 4 le, ew lv]]) (-1) = some (.tup [bw b9 4 ls, bw b9 4 le, ew lv]) := pick_last _ _
          have hix : ixN (t.reverse.map enR ++ [W.tup [bw b9 4 ls, bw b9 4 le, ew lv]]).length (-1) = some (t.reverse.map enR).length := by
            rw [ixN_last (by simp)]
            simp
          rw [eL]
          walk_at "q"
          rw [mset_mset, set_end]
          exact hM _ _ ⟨rfl, by rw [eN]⟩
        · have st : step R (k, k + 1, r) = (k, k + 1, r) :: R := by
            cases R with
            | nil => rfl
            | cons l t =>
              refine if_neg fun z => ?_
              cases last with
              | none =>
                have := hn rfl l t rfl
                omega
              | some cr =>
                obtain ⟨l', t', z1, z2, z3⟩ := hs cr.1 cr.2 rfl
                cases z1
                have k0 : k ≠ 0 := fun e => by
                  rw [if_pos e] at hlast
                  cases hlast
                rw [if_neg k0] at hlast
                have hL1 : L[k - 1]? = some (some cr) := by
                  cases q : L[k - 1]? with
                  | none =>
                    rw [q] at hlast
                    cases hlast
                  | some u =>
                    rw [q] at hlast
                    exact congrArg some hlast.symm
                have e3 : cr.2 = r := z3.symm.trans z.2
                have := h1 k (k - 1) n cr.1 r hc (by rw [hL1, ← e3])
                exact c1 (by rw [this, ← e3])
          walk_at "q"
          refine hM _ _ ⟨rfl, ?_⟩
          rw [mset_mset, st, List.reverse_cons, List.map_append]
          rfl
      · rintro _ _ ⟨rfl, rfl⟩
        walk_at "q"
        have se : ∃ l t, step R (k, k + 1, r) = l :: t ∧ l.2.1 = k + 1 ∧ l.2.2 = r := by
          unfold Mspan.step
          split
          · split
            · exact ⟨_, _, rfl, rfl, rfl⟩
            · exact ⟨_, _, rfl, rfl, rfl⟩
          · exact ⟨_, _, rfl, rfl, rfl⟩
        have sl : (step R (k, k + 1, r)).length ≤ R.length + 1 := by
          unfold Mspan.step
          split
          · split
            · simp
            · simp
          · simp
        have s9 : ∀ l ∈ step R (k, k + 1, r), l.1 < 4 := by
          intro l hl
          unfold Mspan.step at hl
          split at hl
          · split at hl
            · rename_i l0 t0 _
              rcases List.mem_cons.mp hl with rfl | hl
              · exact hR9 l0 List.mem_cons_self
              · exact hR9 l (List.mem_cons_of_mem _ hl)
            · rcases List.mem_cons.mp hl with rfl | hl
              · exact hk9
              · exact hR9 l hl
          · rcases List.mem_cons.mp hl with rfl | hl
            · exact hk9
            · cases hl
        refine hK _ _ ⟨step R (k, k + 1, r), some (n, r), _, _, eF.symm, by omega, lastN.symm, fun n' r' z => ?_, fun z => (by cases z), s9, rfl, rfl⟩
        cases z
        exact se
  · rintro ρ μ' ⟨R, last, x4, x5, hR, hRl, hlast, hs, hn, hR9, rfl, rfl⟩
    walk_at "q"
    rw [hR] at *
    exact Rt.now (k p hpn)
end
end C4
end Q
namespace Q
open PySem L2
local macro_rules | `(tactic| walk_at "mu") => `(tactic| (repeat (first | exact mset_same | assumption | (rw [mset_ne]; rotate_left; (first | assumption | exact Ne.symm (by assumption))))))
local macro_rules | `(tactic| walk_at "lk") => `(tactic| (repeat (first | exact lk_hit | exact lk_nil | refine lk_skip (by decide +kernel) ?_)))
local macro_rules | `(tactic| walk_at "pf") => `(tactic| (repeat (first | rw [pf_nil] | rw [pf_hit] | (rw [pf_skip]; rotate_left; (focus (decide +kernel; done))))))
local macro_rules | `(tactic| walk_at "q") => `(tactic| ((with_reducible conv => whnf); repeat (first
  | (with_reducible refine q_t (by assumption) ?_; with_reducible conv => whnf)
  | (with_reducible refine q_f (by assumption) ?_; with_reducible conv => whnf)
  | (with_reducible refine q_t (by with_reducible rfl) ?_; with_reducible conv => whnf)
  | (with_reducible refine q_f (by with_reducible rfl) ?_; with_reducible conv => whnf)
  | (with_reducible refine q_t (by decide) ?_; with_reducible conv => whnf)
  | (with_reducible refine q_f (by decide) ?_; with_reducible conv => whnf)
  | (with_reducible refine q_t (decide_eq_true (by omega)) ?_; with_reducible conv => whnf)
  | (with_reducible refine q_f (decide_eq_false (by omega)) ?_; with_reducible conv => whnf)
  | (with_reducible refine q_f (q_nn (by omega)) ?_; with_reducible conv => whnf)
  | (with_reducible refine q_t (q_nt (by omega)) ?_; with_reducible conv => whnf)
  | (with_reducible refine q_len (by with_unfolding_all rfl) ?_; with_reducible conv => whnf)
  | (with_reducible refine q_leq (by with_unfolding_all rfl) ?_; with_reducible conv => whnf)
  | (with_reducible refine q_and (by first | assumption | exact True.intro | omega | (simp only [List.length_map, List.length_append, List.length_cons, List.length_nil]; omega) | decide) ?_; with_reducible conv => whnf)
  | (with_reducible refine q_le (by with_unfolding_all rfl) ?_; with_reducible conv => whnf)
  | (with_reducible refine q_and tyL_lst ?_; with_reducible conv => whnf)
  | (with_reducible refine q_and tyL_rol ?_; with_reducible conv => whnf)
  | (with_reducible refine q_and (tyL_ref (by walk_at "mu")) ?_; with_reducible conv => whnf)
  | (with_reducible refine q_and (tyD_ref (by walk_at "mu")) ?_; with_reducible conv => whnf)
  | (with_reducible refine q_and (rdD_ref (by walk_at "mu")) ?_; with_reducible conv => whnf)
  | (rw [pick_c0]; with_reducible conv => whnf)
  | (rw [pick_c1]; with_reducible conv => whnf)
  | (rw [pick_c2]; with_reducible conv => whnf)
  | (rw [pick_c3]; with_reducible conv => whnf)
  | (rw [pick_c4]; with_reducible conv => whnf)
  | (rw [pick_c5]; with_reducible conv => whnf)
  | (rw [mset_same]; with_reducible conv => whnf)
  | (rw [mset_ne (by assumption)]; with_reducible conv => whnf)
  | (rw [mset_ne]; rotate_left; (first | assumption | exact Ne.symm (by assumption)); with_reducible conv => whnf)
  | (rw [rdL_ref]; rotate_left; (focus (walk_at "mu"; done)); with_reducible conv => whnf)
  | (rw [rdL_refD]; rotate_left; (focus (walk_at "mu"; done)); with_reducible conv => whnf)
  | (rw [rdD_refD]; rotate_left; (focus (walk_at "mu"; done)); with_reducible conv => whnf)
  | (rw [rdM_ref]; rotate_left; (focus (walk_at "mu"; done)); with_reducible conv => whnf)
  | (rw [rdL_refK]; rotate_left; (focus (walk_at "mu"; done)); with_reducible conv => whnf)
  | (rw [rdD_refK]; rotate_left; (focus (walk_at "mu"; done)); with_reducible conv => whnf)
  | (rw [tyW_refL]; rotate_left; (focus (walk_at "mu"; done)); with_reducible conv => whnf)
  | (rw [tyW_refD]; rotate_left; (focus (walk_at "mu"; done)); with_reducible conv => whnf)
  | (rw [drf_ref]; rotate_left; (focus (walk_at "mu"; done)); with_reducible conv => whnf)
  | ((conv => (arg 2; tactic' => (walk_at "mu"; done))); with_reducible conv => whnf)
  | (with_reducible refine q_and (Eq.refl _) ?_; with_reducible conv => whnf)
  | (with_reducible refine q_and (MulO.r (by decide)) ?_; with_reducible conv => whnf)
  | (with_reducible refine q_and (MulO.l (by decide)) ?_; with_reducible conv => whnf)
  | (with_reducible refine q_and (MulO.r (by omega)) ?_; with_reducible conv => whnf)
  | (with_reducible refine q_and (MulO.l (by omega)) ?_; with_reducible conv => whnf)
  | (with_reducible refine q_pow (by decide) ?_; with_reducible conv => whnf)
  | (with_reducible refine q_nisT (by first | assumption | with_reducible rfl) ?_; with_reducible conv => whnf)
  | (with_reducible refine q_nisF (by first | assumption | with_reducible rfl) ?_; with_reducible conv => whnf)
  | (with_reducible refine q_eqI ?_; with_reducible conv => whnf)
  | (with_reducible refine q_eqS ?_; with_reducible conv => whnf)
  | (with_reducible refine q_eqB ?_; with_reducible conv => whnf)
  | (with_reducible refine q_neI ?_; with_reducible conv => whnf)
  | (with_reducible refine q_neS ?_; with_reducible conv => whnf)
  | (with_reducible refine q_neB ?_; with_reducible conv => whnf)
  | (with_reducible refine q_memc ?_; with_reducible conv => whnf)
  | (with_reducible refine q_lkn (by walk_at "lk") ?_; with_reducible conv => whnf)
  | (with_reducible refine q_tix (by walk_at "lk"; done) ?_; with_reducible conv => whnf)
  | (with_reducible refine q_tin ?_; with_reducible conv => whnf)
  | (rw [pf_hit]; with_reducible conv => whnf)
  | (rw [pf_skip]; rotate_left; (focus (decide +kernel; done)); with_reducible conv => whnf)
  | (rw [lk_hit]; with_reducible conv => whnf)
  | (rw [lk_skip1]; rotate_left; (focus (decide +kernel; done)); with_reducible conv => whnf))))
/-! the store while the law runs -/
namespace C4
section
open Mspan
theorem ne_df {μ : Mu} {x y : Addr} {u v : O} (hx : μ x = some u) (hy : μ y = some v) (h : u ≠ v) : x ≠ y := fun e => by
  rw [e, hy] at hx
  exact h (Option.some.inj hx).symm
variable {μ : Mu} {P : Po} {X : Xo} {C R a o ac M q d kn Pt : Addr} {n : Nat} {L L2 : List Cell} {qs qs2 : List Op} {rows rows2 : List W}
structure S8 (μ : Mu) (C R a o ac M q d kn Pt : Addr) (n : Nat) (L : List Cell) (qs : List Op) (rows : List W) (L2 : List Cell) (qs2 : List Op) (rows2 : List W) : Prop where
  cl : Cl μ C R a o ac n L qs rows
  md : Md μ M q d kn n L2 qs2 rows2
  t : μ Pt = some (.tb ("fused", none) ("fused" ++ ".<locals>." ++ "<lambda>"))
  na : o ≠ a ∧ ac ≠ a ∧ q ≠ a ∧ d ≠ a ∧ kn ≠ a
  no : o ≠ ac ∧ o ≠ q ∧ o ≠ d ∧ o ≠ kn
  nc : ac ≠ q ∧ ac ≠ d ∧ ac ≠ kn
  nq : q ≠ d ∧ q ≠ kn ∧ d ≠ kn
theorem Md.fr {x : Addr} {u : O} (h : Md μ M q d kn n L qs rows) (h1 : x ≠ M) (h2 : x ≠ q) (h3 : x ≠ d) (h4 : x ≠ kn) : Md (mset μ x u) M q d kn n L qs rows :=
  ⟨by rw [mset_ne (Ne.symm h1), h.m], by rw [mset_ne (Ne.symm h2), h.q], by rw [mset_ne (Ne.symm h3), h.d], by rw [mset_ne (Ne.symm h4), h.k]⟩
theorem S8.setK (h : S8 μ C R a o ac M q d kn Pt n L qs rows L2 qs2 rows2) (L' : List Cell) : S8 (mset μ kn (.ls (L'.map ce))) C R a o ac M q d kn Pt n L qs rows L' qs2 rows2 :=
  ⟨h.cl.fr (ne_df h.md.k h.cl.c (by intro z; cases z)) (ne_df h.md.k h.cl.r (by intro z; cases z)) h.na.2.2.2.2 (Ne.symm h.no.2.2.2) (Ne.symm h.nc.2.2), h.md.setK h.nq.2.1 h.nq.2.2 L', by rw [mset_ne (ne_df h.t h.md.k (by intro z; cases z)), h.t], h.na, h.no, h.nc, h.nq⟩
theorem S8.appM (h : S8 μ C R a o ac M q d kn Pt n L qs rows L2 qs2 rows2) (op : Op) : S8 (mset μ q (.ls ((qs2 ++ [op]).map Op.w))) C R a o ac M q d kn Pt n L qs rows L2 (qs2 ++ [op]) rows2 :=
  ⟨h.cl.fr (ne_df h.md.q h.cl.c (by intro z; cases z)) (ne_df h.md.q h.cl.r (by intro z; cases z)) h.na.2.2.1 (Ne.symm h.no.2.1) (Ne.symm h.nc.1), h.md.app h.nq.2.1 h.nq.1 op, by rw [mset_ne (ne_df h.t h.md.q (by intro z; cases z)), h.t], h.na, h.no, h.nc, h.nq⟩
theorem S8.accM (h : S8 μ C R a o ac M q d kn Pt n L qs rows L2 qs2 rows2) (w : W) : S8 (mset μ d (.ls (rows2 ++ [w]))) C R a o ac M q d kn Pt n L qs rows L2 qs2 (rows2 ++ [w]) :=
  ⟨h.cl.fr (ne_df h.md.d h.cl.c (by intro z; cases z)) (ne_df h.md.d h.cl.r (by intro z; cases z)) h.na.2.2.2.1 (Ne.symm h.no.2.2.1) (Ne.symm h.nc.2.1), h.md.acc h.nq.2.2 (Ne.symm h.nq.1) w, by rw [mset_ne (ne_df h.t h.md.d (by intro z; cases z)), h.t], h.na, h.no, h.nc, h.nq⟩
theorem S8.appC (h : S8 μ C R a o ac M q d kn Pt n L qs rows L2 qs2 rows2) (op : Op) : S8 (mset μ o (.ls ((qs ++ [op]).map Op.w))) C R a o ac M q d kn Pt n L (qs ++ [op]) rows L2 qs2 rows2 :=
  ⟨h.cl.app h.na.1 h.no.1 op, h.md.fr (ne_df h.cl.o h.md.m (by intro z; cases z)) h.no.2.1 h.no.2.2.1 h.no.2.2.2, by rw [mset_ne (ne_df h.t h.cl.o (by intro z; cases z)), h.t], h.na, h.no, h.nc, h.nq⟩
theorem S8.accC (h : S8 μ C R a o ac M q d kn Pt n L qs rows L2 qs2 rows2) (w : W) : S8 (mset μ ac (.ls (rows ++ [w]))) C R a o ac M q d kn Pt n L qs (rows ++ [w]) L2 qs2 rows2 :=
  ⟨h.cl.acc h.na.2.1 (Ne.symm h.no.1) w, h.md.fr (ne_df h.cl.k h.md.m (by intro z; cases z)) h.nc.1 h.nc.2.1 h.nc.2.2, by rw [mset_ne (ne_df h.t h.cl.k (by intro z; cases z)), h.t], h.na, h.no, h.nc, h.nq⟩
theorem S8.route {L' : List Cell} {S : List (Sp Rep)} {p : Addr} (h : S8 μ C R a o ac M q d kn Pt n L qs rows L2 qs2 rows2) (hp : μ p = none) (e : S = lawP L') : S8 (mset (mset μ p (.ls (S.map enR))) R (insR p)) C R p o ac M q d kn Pt n L' qs rows L2 qs2 rows2 := by
  refine ⟨h.cl.route hp e, ?_, ?_, ⟨ne_old h.cl.o hp, ne_old h.cl.k hp, ne_old h.md.q hp, ne_old h.md.d hp, ne_old h.md.k hp⟩, h.no, h.nc, h.nq⟩
  · have h1 := h.md.fr (u := .ls (S.map enR)) (Ne.symm (ne_old h.md.m hp)) (Ne.symm (ne_old h.md.q hp)) (Ne.symm (ne_old h.md.d hp)) (Ne.symm (ne_old h.md.k hp))
    exact h1.fr (ne_df h.cl.r h.md.m (by intro z; cases z)) (ne_df h.cl.r h.md.q (by intro z; cases z)) (ne_df h.cl.r h.md.d (by intro z; cases z)) (ne_df h.cl.r h.md.k (by intro z; cases z))
  · rw [mset_ne (ne_df h.t h.cl.r (by intro z; cases z)), mset_ne (ne_old h.t hp), h.t]
theorem S8.new {p : Addr} {u : O} (h : S8 μ C R a o ac M q d kn Pt n L qs rows L2 qs2 rows2) (hp : μ p = none) : S8 (mset μ p u) C R a o ac M q d kn Pt n L qs rows L2 qs2 rows2 :=
  ⟨h.cl.fr (Ne.symm (ne_old h.cl.c hp)) (Ne.symm (ne_old h.cl.r hp)) (Ne.symm (ne_old h.cl.p hp)) (Ne.symm (ne_old h.cl.o hp)) (Ne.symm (ne_old h.cl.k hp)), h.md.fr (Ne.symm (ne_old h.md.m hp)) (Ne.symm (ne_old h.md.q hp)) (Ne.symm (ne_old h.md.d hp)) (Ne.symm (ne_old h.md.k hp)), by rw [mset_ne (ne_old h.t hp), h.t], h.na, h.no, h.nc, h.nq⟩
theorem oS_D58 (o : Option Str) (n : Nat) : isD n (oS o) = true := by
  cases o <;> cases n <;> rfl
theorem op_D (op : Op) : isD 50 op.w = true := by
  cases op <;> rfl
theorem sp_lsame (h : S8 μ C R a o ac M q d kn Pt n L qs rows L qs rows) (hK : OneCall L) (hL : L.length = 4) (hl : rows.length ≤ qs.length) (hq : qs.length ≤ 900) (hD : isDs 58 rows = true)
    (k : ∀ μ', S8 μ' C R a o ac M q d kn Pt n L qs rows L qs rows → P (.bl true) μ') : f__law_same_2 [.ref C, .ref M] μ P X := by
  rw [f__law_same_2_eq]; unfold f__law_same_2_B fDef
  refine ⟨rfl, ?_⟩
  have hm := h.md.m
  have hqq := h.md.q
  have hdd := h.md.d
  have hc := h.cl.c
  unfold cliO at hc
  have v1 := md_q (n := n) (q := q) (d := d) (kn := kn)
  have v2 := md_d (n := n) (q := q) (d := d) (kn := kn)
  have v3 := md_k (n := n) (q := q) (d := d) (kn := kn)
  have lm : (qs.map Op.w).length = qs.length := List.length_map _
  walk_at "q"
  refine sp_pending h.cl hl (by omega) ?_
  walk_at "q"
  refine q_jn (fun ρ' μ' => μ' = μ ∧ ∃ w : W, ρ' = [some (.ref C), some (.ref M), some (.int ((rows.length : Int) + 1)), some w, none]) (fun N hN => ?_) ?_
  · cases e : qs[rows.length]? with
    | none =>
      have := List.getElem?_eq_none_iff.mp e
      rw [pend_none e]
      walk_at "q"
      exact hN _ _ ⟨rfl, .non, rfl⟩
    | some op =>
      have lt := (List.getElem?_eq_some_iff.mp e).1
      have p1 : pick (qs.map Op.w) ((rows.length : Int) + 1 - 1) = some op.w := by
        rw [Int.add_sub_cancel]
        exact pick_mapN e
      rw [pend_some e]
      walk_at "q"
      refine wNeq_same (n := 60) (show (true && (isD 59 op.w && true)) = true by rw [isD_mono (by decide) (op_D op)]; rfl) (Nat.le_refl _) ?_
      walk_at "q"
      exact hN _ _ ⟨rfl, _, rfl⟩
  · rintro _ ν ⟨e1, w, rfl⟩
    rw [e1]
    clear e1
    walk_at "q"
    refine sp_accepted h.cl (by omega) fun p hp => ?_
    have h2 := h.new (u := .ls rows) hp
    have pd := ne_old hdd hp
    have hdd2 := h2.md.d
    have hm2 := h2.md.m
    have rl : rows.length ≤ 900 := by omega
    walk_at "q"
    refine wNeq_ls (n := 59) (ws := rows) (drf_ref mset_same) (drf_ref hdd2) hD (by decide) ?_
    walk_at "q"
    have h3 : S8 (mset (mset μ p (.ls rows)) p (.ls (rows ++ [.int 0]))) C R a o ac M q d kn Pt n L qs rows L qs rows := by
      rw [mset_mset]
      exact h.new hp
    revert h3
    generalize mset (mset μ p (.ls rows)) p (.ls (rows ++ [.int 0])) = μ3
    intro h3
    have hc3 := h3.cl.c
    unfold cliO at hc3
    have hm3 := h3.md.m
    walk_at "q"
    refine sp_accepted h3.cl (by omega) fun p2 hp2 => ?_
    have h4 := h3.new (u := .ls rows) hp2
    have hm4 := h4.md.m
    have hdd4 := h4.md.d
    walk_at "q"
    refine wEqu_ls (n := 59) (ws := rows) (drf_ref mset_same) (drf_ref hdd4) hD (by decide) ?_
    revert h4 hm4 hdd4
    generalize mset μ3 p2 (.ls rows) = μ4
    intro h4 hm4 hdd4
    have hc4 := h4.cl.c
    unfold cliO at hc4
    walk_at "q"
    refine sp_cpieces h4.cl fun p3 hp3 => ?_
    have h5 := h4.new (u := .ls ((lawP L).map enR)) hp3
    have hm5 := h5.md.m
    walk_at "q"
    refine sp_lpieces hL hK h5.md.k fun p4 hp4 => ?_
    have h6 := h5.new (u := .ls ((lawP L).map enR)) hp4
    have p34 := (new_ne hp4).1
    refine wEqu_ls (n := 60) (ws := (lawP L).map enR) (drf_ref (by rw [mset_ne (Ne.symm p34), mset_same])) (drf_ref mset_same) (isDs_all fun w hw => by
      obtain ⟨x, _, rfl⟩ := List.mem_map.mp hw
      show (isD 58 (bw b9 4 x.1) && (isD 58 (bw b9 4 x.2.1) && ((true && (isD 57 (oS x.2.2.hi) && (true && (true && (true && (true && true)))))) && true))) = true
      rw [show isD 58 (bw b9 4 x.1) = true from oS_D58 _ _, show isD 58 (bw b9 4 x.2.1) = true from oS_D58 _ _, oS_D58]
      rfl) (Nat.le_refl _) ?_
    exact Rt.now (k _ h6)
end
end C4
end Q
namespace Q
open PySem L2
local macro_rules | `(tactic| walk_at "mu") => `(tactic| (repeat (first | exact mset_same | assumption | (rw [mset_ne]; rotate_left; (first | assumption | exact Ne.symm (by assumption))))))
local macro_rules | `(tactic| walk_at "lk") => `(tactic| (repeat (first | exact lk_hit | exact lk_nil | refine lk_skip (by decide +kernel) ?_)))
local macro_rules | `(tactic| walk_at "pf") => `(tactic| (repeat (first | rw [pf_nil] | rw [pf_hit] | (rw [pf_skip]; rotate_left; (focus (decide +kernel; done))))))
local macro_rules | `(tactic| walk_at "q") => `(tactic| ((with_reducible conv => whnf); repeat (first
  | (with_reducible refine q_t (by assumption) ?_; with_reducible conv => whnf)
  | (with_reducible refine q_f (by assumption) ?_; with_reducible conv => whnf)
  | (with_reducible refine q_t (by with_reducible rfl) ?_; with_reducible conv => whnf)
  | (with_reducible refine q_f (by with_reducible rfl) ?_; with_reducible conv => whnf)
  | (with_reducible refine q_t (by decide) ?_; with_reducible conv => whnf)
  | (with_reducible refine q_f (by decide) ?_; with_reducible conv => whnf)
  | (with_reducible refine q_t (decide_eq_true (by omega)) ?_; with_reducible conv => whnf)
  | (with_reducible refine q_f (decide_eq_false (by omega)) ?_; with_reducible conv => whnf)
  | (with_reducible refine q_f (q_nn (by omega)) ?_; with_reducible conv => whnf)
  | (with_reducible refine q_t (q_nt (by omega)) ?_; with_reducible conv => whnf)
  | (with_reducible refine q_len (by with_unfolding_all rfl) ?_; with_reducible conv => whnf)
  | (with_reducible refine q_leq (by with_unfolding_all rfl) ?_; with_reducible conv => whnf)
  | (with_reducible refine q_and (by first | assumption | exact True.intro | omega | (simp only [List.length_map, List.length_append, List.length_cons, List.length_nil]; omega) | decide) ?_; with_reducible conv => whnf)
  | (with_reducible refine q_le (by with_unfolding_all rfl) ?_; with_reducible conv => whnf)
  | (with_reducible refine q_and tyL_lst ?_; with_reducible conv => whnf)
  | (with_reducible refine q_and tyL_rol ?_; with_reducible conv => whnf)
  | (with_reducible refine q_and (tyL_ref (by walk_at "mu")) ?_; with_reducible conv => whnf)
  | (with_reducible refine q_and (tyD_ref (by walk_at "mu")) ?_; with_reducible conv => whnf)
  | (with_reducible refine q_and (rdD_ref (by walk_at "mu")) ?_; with_reducible conv => whnf)
  | (rw [pick_c0]; with_reducible conv => whnf)
  | (rw [pick_c1]; with_reducible conv => whnf)
  | (rw [pick_c2]; with_reducible conv => whnf)
  | (rw [pick_c3]; with_reducible conv => whnf)
  | (rw [pick_c4]; with_reducible conv => whnf)
  | (rw [pick_c5]; with_reducible conv => whnf)
  | (rw [mset_same]; with_reducible conv => whnf)
  | (rw [mset_ne (by assumption)]; with_reducible conv => whnf)
  | (rw [mset_ne]; rotate_left; (first | assumption | exact Ne.symm (by assumption)); with_reducible conv => whnf)
  | (rw [rdL_ref]; rotate_left; (focus (walk_at "mu"; done)); with_reducible conv => whnf)
  | (rw [rdL_refD]; rotate_left; (focus (walk_at "mu"; done)); with_reducible conv => whnf)
  | (rw [rdD_refD]; rotate_left; (focus (walk_at "mu"; done)); with_reducible conv => whnf)
  | (rw [rdM_ref]; rotate_left; (focus (walk_at "mu"; done)); with_reducible conv => whnf)
  | (rw [rdL_refK]; rotate_left; (focus (walk_at "mu"; done)); with_reducible conv => whnf)
  | (rw [rdD_refK]; rotate_left; (focus (walk_at "mu"; done)); with_reducible conv => whnf)
  | (rw [tyW_refL]; rotate_left; (focus (walk_at "mu"; done)); with_reducible conv => whnf)
  | (rw [tyW_refD]; rotate_left; (focus (walk_at "mu"; done)); with_reducible conv => whnf)
  | (rw [drf_ref]; rotate_left; (focus (walk_at "mu"; done)); with_reducible conv => whnf)
  | ((conv => (arg 2; tactic' => (walk_at "mu"; done))); with_reducible conv => whnf)
  | (with_reducible refine q_and (Eq.refl _) ?_; with_reducible conv => whnf)
  | (with_reducible refine q_and (MulO.r (by decide)) ?_; with_reducible conv => whnf)
  | (with_reducible refine q_and (MulO.l (by decide)) ?_; with_reducible conv => whnf)
  | (with_reducible refine q_and (MulO.r (by omega)) ?_; with_reducible conv => whnf)
  | (with_reducible refine q_and (MulO.l (by omega)) ?_; with_reducible conv => whnf)
  | (with_reducible refine q_pow (by decide) ?_; with_reducible conv => whnf)
  | (with_reducible refine q_nisT (by first | assumption | with_reducible rfl) ?_; with_reducible conv => whnf)
  | (with_reducible refine q_nisF (by first | assumption | with_reducible rfl) ?_; with_reducible conv => whnf)
  | (with_reducible refine q_eqI ?_; with_reducible conv => whnf)
  | (with_reducible refine q_eqS ?_; with_reducible conv => whnf)
  | (with_reducible refine q_eqB ?_; with_reducible conv => whnf)
  | (with_reducible refine q_neI ?_; with_reducible conv => whnf)
  | (with_reducible refine q_neS ?_; with_reducible conv => whnf)
  | (with_reducible refine q_neB ?_; with_reducible conv => whnf)
  | (with_reducible refine q_memc ?_; with_reducible conv => whnf)
  | (with_reducible refine q_lkn (by walk_at "lk") ?_; with_reducible conv => whnf)
  | (with_reducible refine q_tix (by walk_at "lk"; done) ?_; with_reducible conv => whnf)
  | (with_reducible refine q_tin ?_; with_reducible conv => whnf)
  | (rw [pf_hit]; with_reducible conv => whnf)
  | (rw [pf_skip]; rotate_left; (focus (decide +kernel; done)); with_reducible conv => whnf)
  | (rw [lk_hit]; with_reducible conv => whnf)
  | (rw [lk_skip1]; rotate_left; (focus (decide +kernel; done)); with_reducible conv => whnf))))
/-! the law's call -/
namespace C4
section
open Mspan
variable {μ : Mu} {P : Po} {X : Xo} {C R a o ac M q d kn Pt : Addr} {n : Nat} {L L2 : List Cell} {qs qs2 : List Op} {rows rows2 : List W}
theorem Keep.mono4 {m : Int} (h : Keep L m) : Keep L (m + 1) := ⟨h.len, h.one, fun i a r e => ⟨by have := (h.at_ i a r e).1; omega, (h.at_ i a r e).2⟩⟩
theorem due_D : isD 60 (.lst (dueL L qs rows)) = true := by
  show isDs 59 (dueL L qs rows) = true
  unfold dueL
  split
  · rename_i op e
    have o57 : isD 57 op.w = true := isD_mono (by decide) (op_D op)
    split
    · show (true && ((true && (true && (isD 57 op.w && true))) && true)) && true = true
      rw [o57]
      rfl
    · rfl
  · rfl
theorem learn_D {lo hi : Nat} : isD 60 (.lst (learnL L qs rows lo hi)) = true := by
  unfold learnL
  split
  · split
    · exact due_D
    · rfl
  · rfl
theorem bad_sd {s : W} {i : Int} (h : intB s 0 ((n : Int) - 1) = false) : mayB n s (.int (-5)) (.tup [.str "answer", .int i, .tup [.str "done"]]) = false := by
  unfold mayB
  rw [show wayOf (kindW (.tup [.str "answer", .int i, .tup [.str "done"]])) = (.sv, .cl) from (by
    show wayOf "answer" = _
    decide +kernel)]
  show (_ && (intB s 0 ((n : Int) - 1) && _)) = false
  rw [h, Bool.false_and, Bool.and_false]
theorem sp_lstrange {rich : Int} (h : S8 μ C R a o ac M q d kn Pt n L qs rows L2 qs2 rows) (hn : n ≤ 4) (hl : rows.length ≤ 900) (k : P (.bl true) μ) : f__law_strange [.ref C, .ref M, .int rich] μ P X := by
  rw [f__law_strange_eq]; unfold f__law_strange_B fDef
  refine ⟨rfl, ?_⟩
  have hm := h.md.m
  have hdd := h.md.d
  have hc := h.cl.c
  unfold cliO at hc
  have v2 := md_d (n := n) (q := q) (d := d) (kn := kn)
  have v4 := md_n (n := n) (q := q) (d := d) (kn := kn)
  obtain ⟨w, hj, hw⟩ := pick_in (l := [W.int (n : Int), .int (-5), .int (-1), .int 1000, .int 0, .bl true, .non]) (i := rich % 7) (by omega) (by show rich % 7 < 7; omega)
  have dA : ∀ i : Int, dp (.tup [.str "answer", .int i, .tup [.str "done"]]) = true := fun i => by
    have key : dp (.tup [.str "answer", .int 0, .tup [.str "done"]]) = true := by decide +kernel
    exact key
  have sd0 : w ≠ .int 0 → intB w 0 ((n : Int) - 1) = false ∧ pl w = true := fun nz => by
    simp only [List.mem_cons, List.not_mem_nil, or_false] at hw
    rcases hw with rfl | rfl | rfl | rfl | rfl | rfl | rfl
    · refine ⟨?_, rfl⟩
      show (decide (0 ≤ (n : Int)) && decide ((n : Int) ≤ (n : Int) - 1)) = false
      rw [decide_eq_false (show ¬(n : Int) ≤ (n : Int) - 1 by omega), Bool.and_false]
    · exact ⟨rfl, rfl⟩
    · exact ⟨rfl, rfl⟩
    · refine ⟨?_, rfl⟩
      show (decide ((0 : Int) ≤ 1000) && decide ((1000 : Int) ≤ (n : Int) - 1)) = false
      rw [decide_eq_false (show ¬(1000 : Int) ≤ (n : Int) - 1 by omega), Bool.and_false]
    · exact absurd rfl nz
    · exact ⟨rfl, rfl⟩
    · exact ⟨rfl, rfl⟩
  walk_at "q"
  have pw : pl w = true := by
    simp only [List.mem_cons, List.not_mem_nil, or_false] at hw
    rcases hw with rfl | rfl | rfl | rfl | rfl | rfl | rfl <;> rfl
  refine q_jn (fun ρ' μ' => μ' = μ ∧ ∃ l : W, dp l = true ∧ mayB n w (.int (-5)) l = false ∧ ρ' = [some (.ref C), some (.ref M), some (.int rich), some (.int ((rows.length : Int) + 1)), some w, some l]) (fun N hN => ?_) ?_
  · by_cases wz : w = .int 0
    · subst wz
      obtain ⟨l, lj, lw⟩ := pick_in (l := [W.tup [.str "answer", .int ((rows.length : Int) + 1), .str "done"], .tup [.str "where", .str "a"], .int 7, .tup [.str "answer", .int ((rows.length : Int) + 1)], .tup [.str "there", .str "", .non, .int 1, .int 0]]) (i := rich / 7 % 5) (by omega) (by show rich / 7 % 5 < 5; omega)
      have hl2 : dp l = true ∧ mayB n (.int 0) (.int (-5)) l = false := by
        simp only [List.mem_cons, List.not_mem_nil, or_false] at lw
        rcases lw with rfl | rfl | rfl | rfl | rfl
        · refine ⟨?_, ?_⟩
          · have key : dp (.tup [.str "answer", .int 0, .str "done"]) = true := by decide +kernel
            exact key
          · unfold mayB
            rw [show letW n (.tup [.str "answer", .int ((rows.length : Int) + 1), .str "done"]) = false from (by
              show letB n (.str "answer" :: _) = false
              rw [let_answer]
              show (numW _ && ansW (.str "done")) = false
              rw [show ansW (.str "done") = false from rfl, Bool.and_false]), Bool.false_and]
        · refine ⟨by decide +kernel, ?_⟩
          unfold mayB
          rw [show wayOf (kindW (.tup [.str "where", .str "a"])) = (.cl, .dr) from (by
            show wayOf "where" = _
            decide +kernel), show partyB (n : Int) Rl.cl (.int 0) = false from rfl, Bool.false_and, Bool.and_false]
        · exact ⟨rfl, rfl⟩
        · refine ⟨?_, ?_⟩
          · have key : dp (.tup [.str "answer", .int 0]) = true := by decide +kernel
            exact key
          · unfold mayB
            rw [show letW n (.tup [.str "answer", .int ((rows.length : Int) + 1)]) = false from (by
              show letB n (.str "answer" :: _) = false
              rw [let_answer]
              rfl), Bool.false_and]
        · refine ⟨by decide +kernel, ?_⟩
          unfold mayB
          rw [show wayOf (kindW (.tup [.str "there", .str "", .non, .int 1, .int 0])) = (.dr, .cl) from (by
            show wayOf "there" = _
            decide +kernel), show partyB (n : Int) Rl.dr (.int 0) = false from rfl, Bool.false_and, Bool.and_false]
      clear lw dA sd0
      walk_at "q"
      exact hN _ _ ⟨rfl, l, hl2.1, hl2.2, rfl⟩
    · obtain ⟨z1, z2⟩ := sd0 wz
      have z3 := bad_sd (i := (rows.length : Int) + 1) z1
      have z4 := dA ((rows.length : Int) + 1)
      have ev : eqW w (.int 0) = false := by
        simp only [List.mem_cons, List.not_mem_nil, or_false] at hw
        rcases hw with rfl | rfl | rfl | rfl | rfl | rfl | rfl
        · show decide ((n : Int) = 0) = false
          exact decide_eq_false fun e => wz (by rw [e])
        · rfl
        · rfl
        · rfl
        · exact absurd rfl wz
        · rfl
        · rfl
      have wD : isD 60 w = true := by
        simp only [List.mem_cons, List.not_mem_nil, or_false] at hw
        rcases hw with rfl | rfl | rfl | rfl | rfl | rfl | rfl <;> rfl
      clear dA sd0 z1 z2 pw
      refine wEqu_data wD rfl ?_
      rw [ev]
      walk_at "q"
      exact hN _ _ ⟨rfl, _, z4, z3, rfl⟩
  · rintro _ ν ⟨e1, l, l1, l2, rfl⟩
    rw [e1]
    clear e1
    clear dA sd0
    walk_at "q"
    refine sp_rcvBad h.cl pw l1 l2 ?_
    walk_at "q"
    refine wEqu_same (n := 1) (w := .lst []) rfl (by decide) ?_
    exact Rt.now k
theorem isDs_app4 {m : Nat} : ∀ {a b : List W}, isDs m a = true → isDs m b = true → isDs m (a ++ b) = true
  | [], _, _, h => h
  | x :: a, b, h1, h2 => by
    have h1 : (isD m x && isDs m a) = true := h1
    obtain ⟨g1, g2⟩ := Bool.and_eq_true_iff.mp h1
    show (isD m x && isDs m (a ++ b)) = true
    rw [g1, isDs_app4 g2 h2]
    rfl
theorem sp_lcall {rich k : Int} (h : S8 μ C R a o ac M q d kn Pt n L qs rows L qs rows) (hK : Keep L k) (hn1 : 1 ≤ n) (hn : n ≤ 4) (hl : rows.length ≤ qs.length) (hq : qs.length ≤ 800) (ok : ∀ op ∈ qs, op.Ok) (hD : isDs 58 rows = true)
    (kk : ∀ μ' L' qs' rows' a', S8 μ' C R a' o ac M q d kn Pt n L' qs' rows' L' qs' rows' → Keep L' (k + 1) → rows'.length ≤ qs'.length → qs'.length ≤ qs.length + 1 → (∀ op ∈ qs', op.Ok) → isDs 58 rows' = true → P (.bl true) μ') : f__law_call_2 [.ref C, .ref M, .int rich, .int k] μ P X := by
  rw [f__law_call_2_eq]; unfold f__law_call_2_B fDef
  refine ⟨rfl, ?_⟩
  have hm := h.md.m
  have hqq := h.md.q
  have hdd := h.md.d
  have hc := h.cl.c
  unfold cliO at hc
  have v1 := md_q (n := n) (q := q) (d := d) (kn := kn)
  have v2 := md_d (n := n) (q := q) (d := d) (kn := kn)
  have v4 := md_n (n := n) (q := q) (d := d) (kn := kn)
  have hL := hK.len
  have lm : (qs.map Op.w).length = qs.length := List.length_map _
  obtain ⟨w, hj, hw⟩ := pick_in (l := [W.int 1, .int 1, .int 1, .int 0, .int 2]) (i := rich / 8 % 5) (by omega) (by show rich / 8 % 5 < 5; omega)
  obtain ⟨jj, rfl, j1, j2⟩ : ∃ jj : Int, w = .int jj ∧ 0 ≤ jj ∧ jj ≤ 2 := by
    simp only [List.mem_cons, List.not_mem_nil, or_false] at hw
    rcases hw with rfl | rfl | rfl | rfl | rfl
    · exact ⟨1, rfl, by omega, by omega⟩
    · exact ⟨1, rfl, by omega, by omega⟩
    · exact ⟨1, rfl, by omega, by omega⟩
    · exact ⟨0, rfl, by omega, by omega⟩
    · exact ⟨2, rfl, by omega, by omega⟩
  have b3 : 0 ≤ rich / 8 / 5 % (n : Int) := Int.emod_nonneg _ (by omega)
  have b4 : rich / 8 / 5 % (n : Int) < (n : Int) := Int.emod_lt_of_pos _ (by omega)
  obtain ⟨num, en, num1, num2⟩ : ∃ num : Int, max 1 ((rows.length : Int) + jj) = num ∧ 1 ≤ num ∧ num ≤ 10000 := ⟨_, rfl, by omega, by omega⟩
  have e8 : rich % 8 = 0 ∨ rich % 8 = 1 ∨ rich % 8 = 2 ∨ rich % 8 = 3 ∨ rich % 8 = 4 ∨ rich % 8 = 5 ∨ rich % 8 = 6 ∨ rich % 8 = 7 := by omega
  rcases e8 with e8 | e8 | e8 | e8 | e8 | e8 | e8 | e8
  · -- submit
    walk_at "q"
    refine sp_opC fun op ho => ?_
    have h1 := h.appM op
    have em : (qs ++ [op]).map Op.w = qs.map Op.w ++ [op.w] := by rw [List.map_append]; rfl
    rw [em] at h1
    have ok2 : ∀ op' ∈ qs ++ [op], op'.Ok := fun op' hop => by
      rcases List.mem_append.mp hop with z | z
      · exact ok op' z
      · rw [List.mem_singleton.mp z]
        exact ho
    have l2 : (qs ++ [op]).length = qs.length + 1 := by rw [List.length_append]; rfl
    have la : (qs.map Op.w ++ [op.w]).length = qs.length + 1 := by rw [List.length_append, lm]; rfl
    have h2 := h1.appC op
    have hc1 := h1.cl.c
    unfold cliO at hc1
    have hm1 := h1.md.m
    have hdd1 := h1.md.d
    by_cases c : rows.length < qs.length
    · walk_at "q"
      refine sp_submit (op := op) h1.cl ho hL hl (by omega) ok h.na.1 h.no.1 ?_
      rw [if_pos c]
      walk_at "q"
      refine wEqu_same (n := 1) (w := .lst []) rfl (by decide) ?_
      exact Rt.now (kk _ L (qs ++ [op]) rows a h2 hK.mono4 (by omega) (by omega) ok2 hD)
    · walk_at "q"
      refine sp_letters h1.md hL (by omega) (by omega) ?_
      walk_at "q"
      refine sp_submit (op := op) h1.cl ho hL hl (by omega) ok h.na.1 h.no.1 ?_
      rw [if_neg c]
      walk_at "q"
      refine wEqu_same (n := 60) due_D (Nat.le_refl _) ?_
      exact Rt.now (kk _ L (qs ++ [op]) rows a h2 hK.mono4 (by omega) (by omega) ok2 hD)
  · -- submit
    walk_at "q"
    refine sp_opC fun op ho => ?_
    have h1 := h.appM op
    have em : (qs ++ [op]).map Op.w = qs.map Op.w ++ [op.w] := by rw [List.map_append]; rfl
    rw [em] at h1
    have ok2 : ∀ op' ∈ qs ++ [op], op'.Ok := fun op' hop => by
      rcases List.mem_append.mp hop with z | z
      · exact ok op' z
      · rw [List.mem_singleton.mp z]
        exact ho
    have l2 : (qs ++ [op]).length = qs.length + 1 := by rw [List.length_append]; rfl
    have la : (qs.map Op.w ++ [op.w]).length = qs.length + 1 := by rw [List.length_append, lm]; rfl
    have h2 := h1.appC op
    have hc1 := h1.cl.c
    unfold cliO at hc1
    have hm1 := h1.md.m
    have hdd1 := h1.md.d
    by_cases c : rows.length < qs.length
    · walk_at "q"
      refine sp_submit (op := op) h1.cl ho hL hl (by omega) ok h.na.1 h.no.1 ?_
      rw [if_pos c]
      walk_at "q"
      refine wEqu_same (n := 1) (w := .lst []) rfl (by decide) ?_
      exact Rt.now (kk _ L (qs ++ [op]) rows a h2 hK.mono4 (by omega) (by omega) ok2 hD)
    · walk_at "q"
      refine sp_letters h1.md hL (by omega) (by omega) ?_
      walk_at "q"
      refine sp_submit (op := op) h1.cl ho hL hl (by omega) ok h.na.1 h.no.1 ?_
      rw [if_neg c]
      walk_at "q"
      refine wEqu_same (n := 60) due_D (Nat.le_refl _) ?_
      exact Rt.now (kk _ L (qs ++ [op]) rows a h2 hK.mono4 (by omega) (by omega) ok2 hD)
  · -- tick
    walk_at "q"
    refine sp_tick h.cl hL hl (by omega) ok ?_
    walk_at "q"
    refine sp_letters h.md hL hl (by omega) ?_
    refine wEqu_same (n := 60) due_D (Nat.le_refl _) ?_
    exact Rt.now (kk _ L qs rows a h hK.mono4 hl (by omega) ok hD)
  · -- there
    walk_at "q"
    refine sp_lthere h.md hn1 h.nq.2.1 h.nq.2.2 hL hl (by omega) fun lo hi ep x L' t1 t2 t3 t4 t5 t6 hD' => ?_
    obtain ⟨kp, ef⟩ := keep_add hK ⟨rfl, rfl, t1, t2⟩ hD'
    have S := h.setK L'
    have hc1 := S.cl.c
    unfold cliO at hc1
    walk_at "q"
    refine sp_rcvThere S.cl S.t t1 t2 t3 (by omega) t5 t6 kp.len ef hl (by omega) ok fun p hp => ?_
    walk_at "q"
    refine wEqu_same (n := 60) learn_D (Nat.le_refl _) ?_
    exact Rt.now (kk _ L' qs rows p (S.route (S := lawP L') hp rfl) kp hl (by omega) ok hD)
  · -- there
    walk_at "q"
    refine sp_lthere h.md hn1 h.nq.2.1 h.nq.2.2 hL hl (by omega) fun lo hi ep x L' t1 t2 t3 t4 t5 t6 hD' => ?_
    obtain ⟨kp, ef⟩ := keep_add hK ⟨rfl, rfl, t1, t2⟩ hD'
    have S := h.setK L'
    have hc1 := S.cl.c
    unfold cliO at hc1
    walk_at "q"
    refine sp_rcvThere S.cl S.t t1 t2 t3 (by omega) t5 t6 kp.len ef hl (by omega) ok fun p hp => ?_
    walk_at "q"
    refine wEqu_same (n := 60) learn_D (Nat.le_refl _) ?_
    exact Rt.now (kk _ L' qs rows p (S.route (S := lawP L') hp rfl) kp hl (by omega) ok hD)
  · -- elsewhere
    walk_at "q"
    rw [en]
    refine sp_lelse h.md hK.one h.nq.2.1 h.nq.2.2 hL hl (by omega) num1 (fun cond => ?_) fun op m r L' z1 z2 z3 z4 hD' => ?_
    · walk_at "q"
      refine sp_rcvElse h.cl num1 num2 b3 b4 hL hl (by omega) ok (fun _ => ?_) fun op m r p z1 z2 z3 z4 _ => absurd z4 (cond op m r z1 z2 z3)
      clear cond
      walk_at "q"
      refine wEqu_same (n := 1) (w := .lst []) rfl (by decide) ?_
      exact Rt.now (kk _ L qs rows a h hK.mono4 hl (by omega) ok hD)
    · obtain ⟨kp, ef⟩ := keep_drop hK hD'
      have S := h.setK L'
      have hc1 := S.cl.c
      unfold cliO at hc1
      have pk := And.intro z1 z2
      clear z1 z2
      walk_at "q"
      refine sp_rcvElse S.cl num1 num2 b3 b4 hL hl (by omega) ok (fun z => absurd z4 (z op m r pk.1 pk.2 z3)) fun op' m' r' p y1 y2 y3 y4 hp => ?_
      have eo : op' = op := by
        rw [pk.2] at y2
        exact (Option.some.inj y2).symm
      subst eo
      have S2 := S.route hp ef
      clear y1 y2 y3
      walk_at "q"
      refine wEqu_same (n := 1) (w := .lst []) rfl (by decide) ?_
      exact Rt.now (kk _ L' qs rows p S2 kp hl (by omega) ok hD)
  · -- answer
    obtain ⟨an, aj, aw⟩ := pick_in (l := [W.tup [.str "done"], .tup [.str "none"], .tup [.str "value", .str "x"]]) (i := rich / 8 / 25 % 3) (by omega) (by show rich / 8 / 25 % 3 < 3; omega)
    have ha : ansW an = true ∧ dp an = true ∧ isD 50 an = true := by
      simp only [List.mem_cons, List.not_mem_nil, or_false] at aw
      rcases aw with rfl | rfl | rfl <;> decide +kernel
    clear aw
    walk_at "q"
    rw [en]
    refine sp_lanswer h.md h.nq.2.2 (Ne.symm h.nq.1) hL hl (by omega) (fun z1 => ?_) fun op z1 z2 => ?_
    · have pk := And.intro z1 trivial
      clear z1
      walk_at "q"
      refine sp_rcvAns h.cl num1 num2 b3 b4 ha.1 ha.2.1 hL hl (by omega) ok h.na.2.1 (Ne.symm h.no.1) (fun _ => ?_) fun op y1 _ => by rw [pk.1] at y1; cases y1
      walk_at "q"
      refine wEqu_same (n := 1) (w := .lst []) rfl (by decide) ?_
      exact Rt.now (kk _ L qs rows a h hK.mono4 hl (by omega) ok hD)
    · have S := h.accM (.tup [.int num, op.w, an])
      have hc1 := S.cl.c
      unfold cliO at hc1
      have pk := And.intro z1 z2
      have lt := (List.getElem?_eq_some_iff.mp z2).1
      clear z1 z2
      have rD : isDs 58 (rows ++ [.tup [.int num, op.w, an]]) = true := isDs_app4 hD (by
        show ((true && (isD 57 op.w && (isD 57 an && true))) && true) = true
        rw [isD_mono (by decide) (op_D op), isD_mono (by decide) ha.2.2]
        rfl)
      have l2 : (rows ++ [W.tup [.int num, op.w, an]]).length = rows.length + 1 := by rw [List.length_append]; rfl
      walk_at "q"
      refine sp_rcvAns S.cl num1 num2 b3 b4 ha.1 ha.2.1 hL hl (by omega) ok h.na.2.1 (Ne.symm h.no.1) (fun y1 => by rw [pk.1] at y1; cases y1) fun op' y1 y2 => ?_
      have eo : op' = op := by
        rw [pk.2] at y2
        exact (Option.some.inj y2).symm
      subst eo
      have S2 := S.accC (.tup [.int num, op'.w, an])
      clear y1 y2
      walk_at "q"
      refine wEqu_same (n := 60) due_D (Nat.le_refl _) ?_
      exact Rt.now (kk _ L qs (rows ++ [.tup [.int num, op'.w, an]]) a S2 hK.mono4 (by omega) (by omega) ok rD)
  · -- strange
    walk_at "q"
    refine sp_lstrange h hn (by omega) ?_
    exact Rt.now (kk _ L qs rows a h hK.mono4 hl (by omega) ok hD)
end
end C4
end Q
namespace Q
open PySem L2
local macro_rules | `(tactic| walk_at "mu") => `(tactic| (repeat (first | exact mset_same | assumption | (rw [mset_ne]; rotate_left; (first | assumption | exact Ne.symm (by assumption))))))
local macro_rules | `(tactic| walk_at "lk") => `(tactic| (repeat (first | exact lk_hit | exact lk_nil | refine lk_skip (by decide +kernel) ?_)))
local macro_rules | `(tactic| walk_at "pf") => `(tactic| (repeat (first | rw [pf_nil] | rw [pf_hit] | (rw [pf_skip]; rotate_left; (focus (decide +kernel; done))))))
local macro_rules | `(tactic| walk_at "q") => `(tactic| ((with_reducible conv => whnf); repeat (first
  | (with_reducible refine q_t (by assumption) ?_; with_reducible conv => whnf)
  | (with_reducible refine q_f (by assumption) ?_; with_reducible conv => whnf)
  | (with_reducible refine q_t (by with_reducible rfl) ?_; with_reducible conv => whnf)
  | (with_reducible refine q_f (by with_reducible rfl) ?_; with_reducible conv => whnf)
  | (with_reducible refine q_t (by decide) ?_; with_reducible conv => whnf)
  | (with_reducible refine q_f (by decide) ?_; with_reducible conv => whnf)
  | (with_reducible refine q_t (decide_eq_true (by omega)) ?_; with_reducible conv => whnf)
  | (with_reducible refine q_f (decide_eq_false (by omega)) ?_; with_reducible conv => whnf)
  | (with_reducible refine q_f (q_nn (by omega)) ?_; with_reducible conv => whnf)
  | (with_reducible refine q_t (q_nt (by omega)) ?_; with_reducible conv => whnf)
  | (with_reducible refine q_len (by with_unfolding_all rfl) ?_; with_reducible conv => whnf)
  | (with_reducible refine q_leq (by with_unfolding_all rfl) ?_; with_reducible conv => whnf)
  | (with_reducible refine q_and (by first | assumption | exact True.intro | omega | (simp only [List.length_map, List.length_append, List.length_cons, List.length_nil]; omega) | decide) ?_; with_reducible conv => whnf)
  | (with_reducible refine q_le (by with_unfolding_all rfl) ?_; with_reducible conv => whnf)
  | (with_reducible refine q_and tyL_lst ?_; with_reducible conv => whnf)
  | (with_reducible refine q_and tyL_rol ?_; with_reducible conv => whnf)
  | (with_reducible refine q_and (tyL_ref (by walk_at "mu")) ?_; with_reducible conv => whnf)
  | (with_reducible refine q_and (tyD_ref (by walk_at "mu")) ?_; with_reducible conv => whnf)
  | (with_reducible refine q_and (rdD_ref (by walk_at "mu")) ?_; with_reducible conv => whnf)
  | (rw [pick_c0]; with_reducible conv => whnf)
  | (rw [pick_c1]; with_reducible conv => whnf)
  | (rw [pick_c2]; with_reducible conv => whnf)
  | (rw [pick_c3]; with_reducible conv => whnf)
  | (rw [pick_c4]; with_reducible conv => whnf)
  | (rw [pick_c5]; with_reducible conv => whnf)
  | (rw [mset_same]; with_reducible conv => whnf)
  | (rw [mset_ne (by assumption)]; with_reducible conv => whnf)
  | (rw [mset_ne]; rotate_left; (first | assumption | exact Ne.symm (by assumption)); with_reducible conv => whnf)
  | (rw [rdL_ref]; rotate_left; (focus (walk_at "mu"; done)); with_reducible conv => whnf)
  | (rw [rdL_refD]; rotate_left; (focus (walk_at "mu"; done)); with_reducible conv => whnf)
  | (rw [rdD_refD]; rotate_left; (focus (walk_at "mu"; done)); with_reducible conv => whnf)
  | (rw [rdM_ref]; rotate_left; (focus (walk_at "mu"; done)); with_reducible conv => whnf)
  | (rw [rdL_refK]; rotate_left; (focus (walk_at "mu"; done)); with_reducible conv => whnf)
  | (rw [rdD_refK]; rotate_left; (focus (walk_at "mu"; done)); with_reducible conv => whnf)
  | (rw [tyW_refL]; rotate_left; (focus (walk_at "mu"; done)); with_reducible conv => whnf)
  | (rw [tyW_refD]; rotate_left; (focus (walk_at "mu"; done)); with_reducible conv => whnf)
  | (rw [drf_ref]; rotate_left; (focus (walk_at "mu"; done)); with_reducible conv => whnf)
  | ((conv => (arg 2; tactic' => (walk_at "mu"; done))); with_reducible conv => whnf)
  | (with_reducible refine q_and (Eq.refl _) ?_; with_reducible conv => whnf)
  | (with_reducible refine q_and (MulO.r (by decide)) ?_; with_reducible conv => whnf)
  | (with_reducible refine q_and (MulO.l (by decide)) ?_; with_reducible conv => whnf)
  | (with_reducible refine q_and (MulO.r (by omega)) ?_; with_reducible conv => whnf)
  | (with_reducible refine q_and (MulO.l (by omega)) ?_; with_reducible conv => whnf)
  | (with_reducible refine q_pow (by decide) ?_; with_reducible conv => whnf)
  | (with_reducible refine q_nisT (by first | assumption | with_reducible rfl) ?_; with_reducible conv => whnf)
  | (with_reducible refine q_nisF (by first | assumption | with_reducible rfl) ?_; with_reducible conv => whnf)
  | (with_reducible refine q_eqI ?_; with_reducible conv => whnf)
  | (with_reducible refine q_eqS ?_; with_reducible conv => whnf)
  | (with_reducible refine q_eqB ?_; with_reducible conv => whnf)
  | (with_reducible refine q_neI ?_; with_reducible conv => whnf)
  | (with_reducible refine q_neS ?_; with_reducible conv => whnf)
  | (with_reducible refine q_neB ?_; with_reducible conv => whnf)
  | (with_reducible refine q_memc ?_; with_reducible conv => whnf)
  | (with_reducible refine q_lkn (by walk_at "lk") ?_; with_reducible conv => whnf)
  | (with_reducible refine q_tix (by walk_at "lk"; done) ?_; with_reducible conv => whnf)
  | (with_reducible refine q_tin ?_; with_reducible conv => whnf)
  | (rw [pf_hit]; with_reducible conv => whnf)
  | (rw [pf_skip]; rotate_left; (focus (decide +kernel; done)); with_reducible conv => whnf)
  | (rw [lk_hit]; with_reducible conv => whnf)
  | (rw [lk_skip1]; rotate_left; (focus (decide +kernel; done)); with_reducible conv => whnf))))
/-! clients -/
theorem sp_is_client {w : W} {μ : Mu} {P : Po} {X : Xo} (hp : pl w = true) (h : P (.bl (intB w (-100) (-1))) μ) : f_is_client [w] μ P X := by
  rw [f_is_client_eq]; unfold f_is_client_B fDef
  refine ⟨rfl, ?_⟩
  walk_at "q"
  refine sp_int hp ?_
  exact Rt.now h
abbrev cliO (nm ct : W) (r q : Addr) : O := .ins "Client" [("_name", nm), ("_count", ct), ("_routes", .ref r), ("_ops", .ref q), ("_accepted", .lst [])]
theorem sp_pending0 {o r q : Addr} {nm ct : W} {μ : Mu} {P : Po} {X : Xo} (h1 : μ o = some (cliO nm ct r q)) (h2 : μ q = some (.ls [])) (h : P .non μ) : f_Client_pending [.ref o] μ P X := by
  rw [f_Client_pending_eq]; unfold f_Client_pending_B fDef
  refine ⟨rfl, ?_⟩
  walk_at "q"
  exact Rt.now h
theorem sp_pending1 {o r q : Addr} {nm ct w : W} {μ : Mu} {P : Po} {X : Xo} (h1 : μ o = some (cliO nm ct r q)) (h2 : μ q = some (.ls [w])) (h : P (.tup [.int 1, w]) μ) : f_Client_pending [.ref o] μ P X := by
  rw [f_Client_pending_eq]; unfold f_Client_pending_B fDef
  refine ⟨rfl, ?_⟩
  have gp : pick [w] ((([] : List W).length : Nat) : Int) = some w := pick_c0 _ _
  walk_at "q"
  refine q_f rfl ?_
  walk_at "q"
  exact Rt.now h
theorem sp_place {k : Str} {a : W} {r : List W} {μ : Mu} {P : Po} {X : Xo} (hp : ∀ w ∈ a :: r, pl w = true) (hk : k.length ≤ 16000000) (ho : opB (.str k :: a :: r) = true) (h : P a μ) : f_place [.tup (.str k :: a :: r)] μ P X := by
  rw [f_place_eq]; unfold f_place_B fDef
  refine ⟨rfl, ?_⟩
  walk_at "q"
  refine sp_is_op hp hk ?_
  rw [ho]
  walk_at "q"
  exact Rt.now h
theorem sp_find0 {r : Addr} {w : W} {μ : Mu} {P : Po} {X : Xo} (h1 : μ r = some (.ins "Routes" [("_pieces", .lst [])])) (h : P .non μ) : f_Routes_find [.ref r, w] μ P X := by
  rw [f_Routes_find_eq]; unfold f_Routes_find_B fDef
  refine ⟨rfl, ?_⟩
  walk_at "q"
  refine ⟨rfl, ?_⟩
  walk_at "q"
  exact Rt.now h
theorem sp_send {o r q : Addr} {nm ct : W} {k : Str} {a : W} {rs : List W} {μ : Mu} {P : Po} {X : Xo} (h1 : μ o = some (cliO nm ct r q)) (h2 : μ q = some (.ls [.tup (.str k :: a :: rs)])) (h3 : μ r = some (.ins "Routes" [("_pieces", .lst [])])) (hp : ∀ w ∈ a :: rs, pl w = true) (hk : k.length ≤ 16000000) (ho : opB (.str k :: a :: rs) = true)
    (h : ∀ w, P w μ) : f_Client__send [.ref o] μ P X := by
  rw [f_Client__send_eq]; unfold f_Client__send_B fDef
  refine ⟨rfl, ?_⟩
  walk_at "q"
  refine sp_pending1 h1 h2 ?_
  walk_at "q"
  refine sp_place hp hk ho ?_
  walk_at "q"
  refine sp_find0 h3 ?_
  walk_at "q"
  refine sp_place hp hk ho ?_
  walk_at "q"
  exact Rt.now (h _)
theorem op_two {k : Str} {l : List W} (h : opB (.str k :: l) = true) : ∃ a r, l = a :: r := by
  match l, h with
  | [], h => cases h
  | a :: r, _ => exact ⟨a, r, rfl⟩
theorem sp_submit {o r q : Addr} {nm ct : W} {k : Str} {l : List W} {μ : Mu} {P : Po} {X : Xo} (h1 : μ o = some (cliO nm ct r q)) (h2 : μ q = some (.ls [])) (h3 : μ r = some (.ins "Routes" [("_pieces", .lst [])])) (n1 : o ≠ q) (n2 : r ≠ q) (hp : ∀ w ∈ l, pl w = true) (hk : k.length ≤ 16000000)
    (ht : opB (.str k :: l) = true → ∀ w, P w (mset μ q (.ls [.tup (.str k :: l)]))) (hf : opB (.str k :: l) = false → X "BadOperation" [] μ) : f_Client_submit [.ref o, .tup (.str k :: l)] μ P X := by
  rw [f_Client_submit_eq]; unfold f_Client_submit_B fDef
  refine ⟨rfl, ?_⟩
  walk_at "q"
  refine sp_is_op hp hk ?_
  cases e : opB (.str k :: l) with
  | false =>
    walk_at "q"
    exact q_ex (hf e)
  | true =>
    walk_at "q"
    refine sp_pending0 h1 h2 ?_
    obtain ⟨a, rs, rfl⟩ := op_two e
    walk_at "q"
    refine sp_send (r := r) (q := q) (nm := nm) (ct := ct) ?_ mset_same ?_ hp hk e fun w => ?_
    · walk_at "mu"
    · walk_at "mu"
    · exact Rt.now (ht e w)
theorem cut_mem {α : Type} {xs : List α} {a b : Option Int} {x : α} (h : x ∈ cutL xs a b) : x ∈ xs := by
  unfold cutL at h
  exact List.mem_of_mem_drop (List.mem_of_mem_take h)
theorem spliced {ws : List W} {u : W} {a b a' b' : Option Int} (h : ∀ w ∈ ws, sc w = true) (hz : ws.length ≤ 4) (hu : sc u = true) : ∃ w l, cutL ws a b ++ [u] ++ cutL ws a' b' = w :: l ∧ sc w = true ∧ (∀ x ∈ l, sc x = true) ∧ l.length ≤ 10 := by
  have hall : ∀ x ∈ cutL ws a b ++ [u] ++ cutL ws a' b', sc x = true := fun x hx => by
    rcases List.mem_append.mp hx with q | q
    · rcases List.mem_append.mp q with q | q
      · exact h x (cut_mem q)
      · rw [List.mem_singleton.mp q]
        exact hu
    · exact h x (cut_mem q)
  have h1 := cutL_len ws a b
  have h2 := cutL_len ws a' b'
  have hl : (cutL ws a b ++ [u] ++ cutL ws a' b').length ≤ 9 := by
    rw [List.length_append, List.length_append, List.length_singleton]
    omega
  have hn : cutL ws a b ++ [u] ++ cutL ws a' b' ≠ [] := by simp
  revert hall hl hn
  generalize cutL ws a b ++ [u] ++ cutL ws a' b' = z
  intro hall hl hn
  match z, hall, hl, hn with
  | w :: l, hall, hl, _ => exact ⟨w, l, rfl, hall w List.mem_cons_self, fun x hx => hall x (List.mem_cons_of_mem _ hx), by rw [List.length_cons] at hl; omega⟩
end Q
namespace Q
open PySem L2
local macro_rules | `(tactic| walk_at "mu") => `(tactic| (repeat (first | exact mset_same | assumption | (rw [mset_ne]; rotate_left; (first | assumption | exact Ne.symm (by assumption))))))
local macro_rules | `(tactic| walk_at "lk") => `(tactic| (repeat (first | exact lk_hit | exact lk_nil | refine lk_skip (by decide +kernel) ?_)))
local macro_rules | `(tactic| walk_at "pf") => `(tactic| (repeat (first | rw [pf_nil] | rw [pf_hit] | (rw [pf_skip]; rotate_left; (focus (decide +kernel; done))))))
local macro_rules | `(tactic| walk_at "q") => `(tactic| ((with_reducible conv => whnf); repeat (first
  | (with_reducible refine q_t (by assumption) ?_; with_reducible conv => whnf)
  | (with_reducible refine q_f (by assumption) ?_; with_reducible conv => whnf)
  | (with_reducible refine q_t (by with_reducible rfl) ?_; with_reducible conv => whnf)
  | (with_reducible refine q_f (by with_reducible rfl) ?_; with_reducible conv => whnf)
  | (with_reducible refine q_t (by decide) ?_; with_reducible conv => whnf)
  | (with_reducible refine q_f (by decide) ?_; with_reducible conv => whnf)
  | (with_reducible refine q_t (decide_eq_true (by omega)) ?_; with_reducible conv => whnf)
  | (with_reducible refine q_f (decide_eq_false (by omega)) ?_; with_reducible conv => whnf)
  | (with_reducible refine q_f (q_nn (by omega)) ?_; with_reducible conv => whnf)
  | (with_reducible refine q_t (q_nt (by omega)) ?_; with_reducible conv => whnf)
  | (with_reducible refine q_len (by with_unfolding_all rfl) ?_; with_reducible conv => whnf)
  | (with_reducible refine q_leq (by with_unfolding_all rfl) ?_; with_reducible conv => whnf)
  | (with_reducible refine q_and (by first | assumption | exact True.intro | omega | (simp only [List.length_map, List.length_append, List.length_cons, List.length_nil]; omega) | decide) ?_; with_reducible conv => whnf)
  | (with_reducible refine q_le (by with_unfolding_all rfl) ?_; with_reducible conv => whnf)
  | (with_reducible refine q_and tyL_lst ?_; with_reducible conv => whnf)
  | (with_reducible refine q_and tyL_rol ?_; with_reducible conv => whnf)
  | (with_reducible refine q_and (tyL_ref (by walk_at "mu")) ?_; with_reducible conv => whnf)
  | (with_reducible refine q_and (tyD_ref (by walk_at "mu")) ?_; with_reducible conv => whnf)
  | (with_reducible refine q_and (rdD_ref (by walk_at "mu")) ?_; with_reducible conv => whnf)
  | (rw [pick_c0]; with_reducible conv => whnf)
  | (rw [pick_c1]; with_reducible conv => whnf)
  | (rw [pick_c2]; with_reducible conv => whnf)
  | (rw [pick_c3]; with_reducible conv => whnf)
  | (rw [pick_c4]; with_reducible conv => whnf)
  | (rw [pick_c5]; with_reducible conv => whnf)
  | (rw [mset_same]; with_reducible conv => whnf)
  | (rw [mset_ne (by assumption)]; with_reducible conv => whnf)
  | (rw [mset_ne]; rotate_left; (first | assumption | exact Ne.symm (by assumption)); with_reducible conv => whnf)
  | (rw [rdL_ref]; rotate_left; (focus (walk_at "mu"; done)); with_reducible conv => whnf)
  | (rw [rdL_refD]; rotate_left; (focus (walk_at "mu"; done)); with_reducible conv => whnf)
  | (rw [rdD_refD]; rotate_left; (focus (walk_at "mu"; done)); with_reducible conv => whnf)
  | (rw [rdM_ref]; rotate_left; (focus (walk_at "mu"; done)); with_reducible conv => whnf)
  | (rw [rdL_refK]; rotate_left; (focus (walk_at "mu"; done)); with_reducible conv => whnf)
  | (rw [rdD_refK]; rotate_left; (focus (walk_at "mu"; done)); with_reducible conv => whnf)
  | (rw [tyW_refL]; rotate_left; (focus (walk_at "mu"; done)); with_reducible conv => whnf)
  | (rw [tyW_refD]; rotate_left; (focus (walk_at "mu"; done)); with_reducible conv => whnf)
  | (rw [drf_ref]; rotate_left; (focus (walk_at "mu"; done)); with_reducible conv => whnf)
  | ((conv => (arg 2; tactic' => (walk_at "mu"; done))); with_reducible conv => whnf)
  | (with_reducible refine q_and (Eq.refl _) ?_; with_reducible conv => whnf)
  | (with_reducible refine q_and (MulO.r (by decide)) ?_; with_reducible conv => whnf)
  | (with_reducible refine q_and (MulO.l (by decide)) ?_; with_reducible conv => whnf)
  | (with_reducible refine q_and (MulO.r (by omega)) ?_; with_reducible conv => whnf)
  | (with_reducible refine q_and (MulO.l (by omega)) ?_; with_reducible conv => whnf)
  | (with_reducible refine q_pow (by decide) ?_; with_reducible conv => whnf)
  | (with_reducible refine q_nisT (by first | assumption | with_reducible rfl) ?_; with_reducible conv => whnf)
  | (with_reducible refine q_nisF (by first | assumption | with_reducible rfl) ?_; with_reducible conv => whnf)
  | (with_reducible refine q_eqI ?_; with_reducible conv => whnf)
  | (with_reducible refine q_eqS ?_; with_reducible conv => whnf)
  | (with_reducible refine q_eqB ?_; with_reducible conv => whnf)
  | (with_reducible refine q_neI ?_; with_reducible conv => whnf)
  | (with_reducible refine q_neS ?_; with_reducible conv => whnf)
  | (with_reducible refine q_neB ?_; with_reducible conv => whnf)
  | (with_reducible refine q_memc ?_; with_reducible conv => whnf)
  | (with_reducible refine q_lkn (by walk_at "lk") ?_; with_reducible conv => whnf)
  | (with_reducible refine q_tix (by walk_at "lk"; done) ?_; with_reducible conv => whnf)
  | (with_reducible refine q_tin ?_; with_reducible conv => whnf)
  | (rw [pf_hit]; with_reducible conv => whnf)
  | (rw [pf_skip]; rotate_left; (focus (decide +kernel; done)); with_reducible conv => whnf)
  | (rw [lk_hit]; with_reducible conv => whnf)
  | (rw [lk_skip1]; rotate_left; (focus (decide +kernel; done)); with_reducible conv => whnf))))
/-! the law -/
namespace C4
section
open Mspan
theorem new_ne {μ : Mu} {x p : Addr} {u : O} (h : mset μ x u p = none) : x ≠ p ∧ μ p = none := by
  by_cases e : p = x
  · subst e
    rw [mset_same] at h
    cases h
  · rw [mset_ne e] at h
    exact ⟨Ne.symm e, h⟩
theorem sp_rinit {R : Addr} {μ : Mu} {P : Po} {X : Xo} (hR : μ R = some (.ins "Routes" [])) (k : ∀ a, μ a = none → P .non (mset (mset μ a (.ls [])) R (insR a))) : f_Routes___init___2 [.ref R] μ P X := by
  rw [f_Routes___init___2_eq]; unfold f_Routes___init___2_B fDef
  refine ⟨rfl, ?_⟩
  walk_at "q"
  intro a ha
  have n : a ≠ R := fun e => by
    rw [e, hR] at ha
    cases ha
  walk_at "q"
  exact Rt.now (k a ha)
theorem sp_cinit {μ : Mu} {P : Po} {X : Xo} {C : Addr} {n : Nat} (hC : μ C = none) (h1 : 1 ≤ n) (h4 : n ≤ 4)
    (k : ∀ R a o ac μ', Cl μ' C R a o ac n [none, none, none, none] [] [] → o ≠ a → ac ≠ a → o ≠ ac → Ext μ μ' → P .non μ') : f_Client___init___2 [.ref C, .int (-5), .int (n : Int)] (mset μ C (.ins "Client" [])) P X := by
  rw [f_Client___init___2_eq]; unfold f_Client___init___2_B fDef
  refine ⟨rfl, ?_⟩
  walk_at "q"
  refine sp_is_client rfl ?_
  rw [show intB (.int (-5)) (-100) (-1) = true from rfl]
  walk_at "q"
  refine sp_is_integer ?_
  rw [decide_eq_true (show (1 : Int) ≤ n by omega), decide_eq_true (show (n : Int) ≤ 20 by omega)]
  walk_at "q"
  intro R hR
  obtain ⟨r1, hR⟩ := new_ne hR
  obtain ⟨_, hR⟩ := new_ne hR
  obtain ⟨_, hR⟩ := new_ne hR
  refine sp_rinit mset_same fun a ha => ?_
  obtain ⟨a1, ha⟩ := new_ne ha
  obtain ⟨a2, ha⟩ := new_ne ha
  obtain ⟨_, ha⟩ := new_ne ha
  obtain ⟨_, ha⟩ := new_ne ha
  walk_at "q"
  intro o ho
  obtain ⟨o1, ho⟩ := new_ne ho
  obtain ⟨o2, ho⟩ := new_ne ho
  obtain ⟨o3, ho⟩ := new_ne ho
  obtain ⟨o4, ho⟩ := new_ne ho
  obtain ⟨_, ho⟩ := new_ne ho
  obtain ⟨_, ho⟩ := new_ne ho
  obtain ⟨_, ho⟩ := new_ne ho
  walk_at "q"
  intro ac hac
  obtain ⟨c1, hac⟩ := new_ne hac
  obtain ⟨c2, hac⟩ := new_ne hac
  obtain ⟨c3, hac⟩ := new_ne hac
  obtain ⟨c4, hac⟩ := new_ne hac
  obtain ⟨c5, hac⟩ := new_ne hac
  obtain ⟨c6, hac⟩ := new_ne hac
  obtain ⟨_, hac⟩ := new_ne hac
  obtain ⟨_, hac⟩ := new_ne hac
  obtain ⟨_, hac⟩ := new_ne hac
  walk_at "q"
  refine Rt.now (k R a o ac _ ⟨?_, ?_, ?_, ?_, ?_⟩ ?_ ?_ ?_ ?_)
  · rw [mset_same]
    rfl
  · rw [mset_ne (Ne.symm r1), mset_ne c4.symm.symm, mset_ne (Ne.symm r1), mset_ne (by assumption), mset_ne (Ne.symm r1), mset_same]
  · walk_at "mu"
  · walk_at "mu"
  · walk_at "mu"
  · exact Ne.symm (by assumption)
  · exact Ne.symm (by assumption)
  · assumption
  · intro x u hx
    have x1 := ne_old hx hC
    have x2 := ne_old hx hR
    have x3 := ne_old hx ha
    have x4 := ne_old hx ho
    have x5 := ne_old hx hac
    repeat rw [mset_ne (by assumption)]
    exact hx
theorem no4 {i : Nat} {x : Int × Rep} (h : ([none, none, none, none] : List Cell)[i]? = some (some x)) : False := by
  match i with
  | 0 => cases h
  | 1 => cases h
  | 2 => cases h
  | 3 => cases h
  | n + 4 => cases h
theorem keep4 {m : Int} : Keep [none, none, none, none] m := ⟨rfl, fun i j a c r h _ => (no4 h).elim, fun i a r h => (no4 h).elim⟩
theorem Cl.new {μ : Mu} {C R a o ac p : Addr} {n : Nat} {L : List Cell} {qs : List Op} {rows : List W} {u : O} (h : Cl μ C R a o ac n L qs rows) (hp : μ p = none) : Cl (mset μ p u) C R a o ac n L qs rows :=
  h.fr (Ne.symm (ne_old h.c hp)) (Ne.symm (ne_old h.r hp)) (Ne.symm (ne_old h.p hp)) (Ne.symm (ne_old h.o hp)) (Ne.symm (ne_old h.k hp))
theorem law_k58 : LawOkT [(("fused", none), ("fused" ++ ".<locals>." ++ "<lambda>"))] f_law_12 63 := by
  intro ns hl μ hT P X hP
  obtain ⟨Pt, hPt⟩ := hT _ List.mem_cons_self
  have hPt : μ Pt = some (.tb ("fused", none) ("fused" ++ ".<locals>." ++ "<lambda>")) := hPt
  rw [f_law_12_eq]; unfold f_law_12_B fDef
  refine ⟨rfl, ?_⟩
  walk_at "q"
  refine sp__law_cell_2 (k := 0) fun c0 => ?_
  obtain ⟨n, en, n1, n4⟩ : ∃ n : Nat, 1 + c0 % 4 = (n : Int) ∧ 1 ≤ n ∧ n ≤ 4 := ⟨(1 + c0 % 4).toNat, by omega, by omega, by omega⟩
  walk_at "q"
  rw [en]
  intro C hC
  refine sp_cinit hC n1 n4 fun R a o ac μ1 cl na1 na2 no ex => ?_
  have hP1 := ex _ _ hPt
  walk_at "q"
  intro M hM
  walk_at "q"
  intro q hq
  walk_at "q"
  intro d hd
  walk_at "q"
  intro kn hkn
  have cl1 := cl.new (u := .dk []) hM
  have cl2 := cl1.new (u := .ls []) hq
  have cl3 := cl2.new (u := .ls []) hd
  have cl4 := cl3.new (u := .ls [.non, .non, .non, .non]) hkn
  have dk1 := ne_old cl3.o hkn
  have dk2 := ne_old cl3.k hkn
  have dk3 := ne_old cl3.p hkn
  have dd1 := ne_old cl2.o hd
  have dd2 := ne_old cl2.k hd
  have dd3 := ne_old cl2.p hd
  have dq1 := ne_old cl1.o hq
  have dq2 := ne_old cl1.k hq
  have dq3 := ne_old cl1.p hq
  have dm1 := ne_old cl.c hM
  have dm2 := ne_old cl.r hM
  have dm3 := ne_old cl.p hM
  have dm4 := ne_old cl.o hM
  have dm5 := ne_old cl.k hM
  have tm := ne_old hP1 hM
  obtain ⟨k1, hkn⟩ := new_ne hkn
  obtain ⟨k2, hkn⟩ := new_ne hkn
  obtain ⟨k3, hkn⟩ := new_ne hkn
  obtain ⟨d1, hd⟩ := new_ne hd
  obtain ⟨d2, hd⟩ := new_ne hd
  obtain ⟨q1, hq⟩ := new_ne hq
  have tk := ne_old hP1 hkn
  have td := ne_old hP1 hd
  have tq := ne_old hP1 hq
  have cl5 := cl4.fr (x := M) (u := .dk (mdK n q d kn)) (Ne.symm dm1) (Ne.symm dm2) (Ne.symm dm3) (Ne.symm dm4) (Ne.symm dm5)
  have st : S8 (mset (mset (mset (mset (mset μ1 M (.dk [])) q (.ls [])) d (.ls [])) kn (.ls [.non, .non, .non, .non])) M (.dk (mdK n q d kn))) C R a o ac M q d kn Pt n [none, none, none, none] [] [] [none, none, none, none] [] [] := by
    refine ⟨cl5, ⟨mset_same, ?_, ?_, ?_⟩, ?_, ⟨na1, na2, Ne.symm dq3, Ne.symm dd3, Ne.symm dk3⟩, ⟨no, dq1, dd1, dk1⟩, ⟨dq2, dd2, dk2⟩, ?_⟩
    · walk_at "mu"
    · walk_at "mu"
    · walk_at "mu"
    · repeat rw [mset_ne (by assumption)]
      exact hP1
    · refine ⟨?_, ?_, ?_⟩ <;> first | assumption | exact Ne.symm (by assumption)
  walk_at "q"
  rw [show mergeW [] [(Sum.inr "count", W.int (n : Int)), (Sum.inr "queue", W.ref q), (Sum.inr "done", W.ref d), (Sum.inr "routes", W.ref kn)] = mdK n q d kn from rfl]
  revert st
  generalize mset (mset (mset (mset (mset μ1 M (.dk [])) q (.ls [])) d (.ls [])) kn (.ls [.non, .non, .non, .non])) M (.dk (mdK n q d kn)) = μ0
  intro st
  rw [List.length_map]
  refine itS_nums (fun m ρ μ' => ∃ (a : Addr) (L : List Cell) (qs : List Op) (rows : List W) (x4 : Option W), S8 μ' C R a o ac M q d kn Pt n L qs rows L qs rows ∧ Keep L (1 + (m : Int)) ∧ rows.length ≤ qs.length ∧ qs.length ≤ m ∧ (∀ op ∈ qs, op.Ok) ∧ isDs 58 rows = true ∧ ρ = [some (.rol (ns.map W.int)), some (.int (n : Int)), some (.ref C), some (.ref M), x4]) ⟨a, [none, none, none, none], [], [], none, st, keep4, Nat.le_refl _, Nat.le_refl _, fun op h => (by cases h), rfl, rfl⟩ (by intros; trivial) ?_ ?_
  · rintro m hm ρ μ' ⟨a, L, qs, rows, x4, st, kp, hl, hq, ok, hD, rfl⟩ K hK
    have hm2 : 1 + m < ns.length := by omega
    have p1 : pick (ns.map W.int) (1 + (m : Int)) = some (.int ns[1 + m]) := by
      rw [show (1 : Int) + (m : Int) = ((1 + m : Nat) : Int) by omega]
      exact pick_nat (by omega) (by rw [Int.toNat_natCast, List.getElem?_map, List.getElem?_eq_getElem hm2]; rfl)
    revert p1
    generalize ns[1 + m] = c1
    intro p1
    have fs := And.intro hD trivial
    clear hD
    walk_at "q"
    refine sp__law_rich fun r => ?_
    refine sp_lcall st kp n1 n4 hl (by omega) ok fs.1 fun μ2 L2 qs2 rows2 a2 st2 kp2 hl2 hq2 ok2 hD2 => ?_
    have fs2 := And.intro hD2 trivial
    clear hD2
    walk_at "q"
    refine sp_lsame st2 kp2.one kp2.len hl2 (by omega) fs2.1 fun μ3 st3 => ?_
    walk_at "q"
    refine hK _ _ ⟨a2, L2, qs2, rows2, _, st3, ?_, hl2, by omega, ok2, fs2.1, rfl⟩
    rw [show (1 : Int) + ((m + 1 : Nat) : Int) = 1 + (m : Int) + 1 by omega]
    exact kp2
  · rintro ρ μ' ⟨a, L, qs, rows, x4, st, kp, hl, hq, ok, hD, rfl⟩
    have fs := And.intro hD trivial
    clear hD
    walk_at "q"
    refine sp_lsame st kp.one kp.len hl (by omega) fs.1 fun μ3 st3 => ?_
    exact Rt.now (hP _)
end
end C4
end Q
namespace Q
open PySem L2
theorem law_k58 : LawOkT [(("fused", none), ("fused" ++ ".<locals>." ++ "<lambda>"))] f_law_12 63 := C4.law_k58
end Q
namespace K58
open PySem PySem.Spec PyProof.Rows L2 Evl Q
/-! ### the head -/
theorem facts {P : Program} {w : World} {K : Frag} {h : Heap} {mg : Str → Option Value} {f : Addr} (X : K.In h) (G : h.Ns mainGlobals mg) (hfa : mg ("law" : Str) = some (.ref f)) (y : He.SaysX fa fn ts [("fused", none)] ex w h K) :
    ∃ fd : FuncData, (∀ (s : Shared) (v : Value), BindsTo s fd ⟨[v], []⟩ [("script", v)]) ∧ ∀ base : Heap, K.In base → base.Ns mainGlobals mg → (∀ p ∈ tq, LamX.TabB base mg (He.cT K p.1).1 (He.cT K p.1).2) → FnOk P w K mg base CX0 15 f fd ["script"] (spL K f_law_12) := by
  have c := y.t.d
  obtain ⟨fd_is_key, F_is_key⟩ := c.def_ 0 (d := d_is_key) rfl
  obtain ⟨fd_is_bound, F_is_bound⟩ := c.def_ 1 (d := d_is_bound) rfl
  obtain ⟨fd_is_range, F_is_range⟩ := c.def_ 2 (d := d_is_range) rfl
  obtain ⟨fd_below, F_below⟩ := c.def_ 3 (d := d_below) rfl
  obtain ⟨fd_contains, F_contains⟩ := c.def_ 4 (d := d_contains) rfl
  obtain ⟨fd_overlap, F_overlap⟩ := c.def_ 5 (d := d_overlap) rfl
  obtain ⟨fd_is_printable, F_is_printable⟩ := c.def_ 6 (d := d_is_printable) rfl
  obtain ⟨fd_is_integer, F_is_integer⟩ := c.def_ 7 (d := d_is_integer) rfl
  obtain ⟨fd_kind_of, F_kind_of⟩ := c.def_ 8 (d := d_kind_of) rfl
  obtain ⟨fd_is_value, F_is_value⟩ := c.def_ 9 (d := d_is_value) rfl
  obtain ⟨fd__is_pair, F__is_pair⟩ := c.def_ 10 (d := d__is_pair) rfl
  obtain ⟨fd_are_pairs, F_are_pairs⟩ := c.def_ 11 (d := d_are_pairs) rfl
  obtain ⟨fd__is_key_alone, F__is_key_alone⟩ := c.def_ 12 (d := d__is_key_alone) rfl
  obtain ⟨fd__is_put, F__is_put⟩ := c.def_ 13 (d := d__is_put) rfl
  obtain ⟨fd__is_swap, F__is_swap⟩ := c.def_ 14 (d := d__is_swap) rfl
  obtain ⟨fd__is_page, F__is_page⟩ := c.def_ 15 (d := d__is_page) rfl
  obtain ⟨fd_is_operation, F_is_operation⟩ := c.def_ 16 (d := d_is_operation) rfl
  obtain ⟨fd_place, F_place⟩ := c.def_ 17 (d := d_place) rfl
  obtain ⟨fd__is_word_alone, F__is_word_alone⟩ := c.def_ 18 (d := d__is_word_alone) rfl
  obtain ⟨fd__is_value_told, F__is_value_told⟩ := c.def_ 19 (d := d__is_value_told) rfl
  obtain ⟨fd__is_page_told, F__is_page_told⟩ := c.def_ 20 (d := d__is_page_told) rfl
  obtain ⟨fd_is_answer, F_is_answer⟩ := c.def_ 21 (d := d_is_answer) rfl
  obtain ⟨fd_is_server, F_is_server⟩ := c.def_ 22 (d := d_is_server) rfl
  obtain ⟨fd_is_client, F_is_client⟩ := c.def_ 23 (d := d_is_client) rfl
  obtain ⟨fd_is_pairs, F_is_pairs⟩ := c.def_ 24 (d := d_is_pairs) rfl
  obtain ⟨fd_is_number, F_is_number⟩ := c.def_ 25 (d := d_is_number) rfl
  obtain ⟨fd__is_row, F__is_row⟩ := c.def_ 26 (d := d__is_row) rfl
  obtain ⟨fd_is_rows, F_is_rows⟩ := c.def_ 27 (d := d_is_rows) rfl
  obtain ⟨fd__is_ask, F__is_ask⟩ := c.def_ 28 (d := d__is_ask) rfl
  obtain ⟨fd__is_where, F__is_where⟩ := c.def_ 29 (d := d__is_where) rfl
  obtain ⟨fd__is_told, F__is_told⟩ := c.def_ 30 (d := d__is_told) rfl
  obtain ⟨fd__is_elsewhere, F__is_elsewhere⟩ := c.def_ 31 (d := d__is_elsewhere) rfl
  obtain ⟨fd_names_shard, F_names_shard⟩ := c.def_ 32 (d := d_names_shard) rfl
  obtain ⟨fd__names_server, F__names_server⟩ := c.def_ 33 (d := d__names_server) rfl
  obtain ⟨fd__is_split, F__is_split⟩ := c.def_ 34 (d := d__is_split) rfl
  obtain ⟨fd__is_join, F__is_join⟩ := c.def_ 35 (d := d__is_join) rfl
  obtain ⟨fd__is_have, F__is_have⟩ := c.def_ 36 (d := d__is_have) rfl
  obtain ⟨fd__is_content, F__is_content⟩ := c.def_ 37 (d := d__is_content) rfl
  obtain ⟨fd__is_receipt, F__is_receipt⟩ := c.def_ 38 (d := d__is_receipt) rfl
  obtain ⟨fd_is_letter, F_is_letter⟩ := c.def_ 39 (d := d_is_letter) rfl
  obtain ⟨fd__is_party, F__is_party⟩ := c.def_ 40 (d := d__is_party) rfl
  obtain ⟨fd_check_letter, F_check_letter⟩ := c.def_ 41 (d := d_check_letter) rfl
  obtain ⟨fd__lesser, F__lesser⟩ := c.def_ 42 (d := d__lesser) rfl
  obtain ⟨fd_apart, F_apart⟩ := c.def_ 43 (d := d_apart) rfl
  obtain ⟨fd_filled, F_filled⟩ := c.def_ 44 (d := d_filled) rfl
  obtain ⟨fd_fused, F_fused⟩ := c.def_ 45 (d := d_fused) rfl
  obtain ⟨fd__newer, F__newer⟩ := c.def_ 46 (d := d__newer) rfl
  obtain ⟨fd__law_cell, F__law_cell⟩ := c.def_ 47 (d := d__law_cell) rfl
  obtain ⟨fd__law_rich, F__law_rich⟩ := c.def_ 48 (d := d__law_rich) rfl
  obtain ⟨fd__law_word, F__law_word⟩ := c.def_ 49 (d := d__law_word) rfl
  obtain ⟨fd__law_key, F__law_key⟩ := c.def_ 50 (d := d__law_key) rfl
  obtain ⟨fd__law_bound, F__law_bound⟩ := c.def_ 51 (d := d__law_bound) rfl
  obtain ⟨fd__law_value, F__law_value⟩ := c.def_ 52 (d := d__law_value) rfl
  obtain ⟨fd__law_operation, F__law_operation⟩ := c.def_ 53 (d := d__law_operation) rfl
  obtain ⟨fd__law_part, F__law_part⟩ := c.def_ 54 (d := d__law_part) rfl
  obtain ⟨fd__law_letters, F__law_letters⟩ := c.def_ 55 (d := d__law_letters) rfl
  obtain ⟨fd__law_there, F__law_there⟩ := c.def_ 56 (d := d__law_there) rfl
  obtain ⟨fd__law_elsewhere, F__law_elsewhere⟩ := c.def_ 57 (d := d__law_elsewhere) rfl
  obtain ⟨fd__law_answer, F__law_answer⟩ := c.def_ 58 (d := d__law_answer) rfl
  obtain ⟨fd__law_strange, F__law_strange⟩ := c.def_ 59 (d := d__law_strange) rfl
  obtain ⟨fd__law_call, F__law_call⟩ := c.def_ 60 (d := d__law_call) rfl
  obtain ⟨fd__law_pieces, F__law_pieces⟩ := c.def_ 61 (d := d__law_pieces) rfl
  obtain ⟨fd__law_same, F__law_same⟩ := c.def_ 62 (d := d__law_same) rfl
  obtain ⟨fd_law, F_law⟩ := c.def_ 63 (d := d_law) rfl
  obtain ⟨fd_Routes___init__, F_Routes___init__⟩ := c.def_ 64 (d := d_Routes___init__) rfl
  obtain ⟨fd_Routes_add, F_Routes_add⟩ := c.def_ 65 (d := d_Routes_add) rfl
  obtain ⟨fd_Routes_pieces, F_Routes_pieces⟩ := c.def_ 66 (d := d_Routes_pieces) rfl
  obtain ⟨fd_Routes_find, F_Routes_find⟩ := c.def_ 67 (d := d_Routes_find) rfl
  obtain ⟨fd_Routes_drop, F_Routes_drop⟩ := c.def_ 68 (d := d_Routes_drop) rfl
  obtain ⟨fd_Client___init__, F_Client___init__⟩ := c.def_ 69 (d := d_Client___init__) rfl
  obtain ⟨fd_Client_pending, F_Client_pending⟩ := c.def_ 70 (d := d_Client_pending) rfl
  obtain ⟨fd_Client__send, F_Client__send⟩ := c.def_ 71 (d := d_Client__send) rfl
  obtain ⟨fd_Client_submit, F_Client_submit⟩ := c.def_ 72 (d := d_Client_submit) rfl
  obtain ⟨fd_Client_tick, F_Client_tick⟩ := c.def_ 73 (d := d_Client_tick) rfl
  obtain ⟨fd_Client__learn, F_Client__learn⟩ := c.def_ 74 (d := d_Client__learn) rfl
  obtain ⟨fd_Client__is_pending, F_Client__is_pending⟩ := c.def_ 75 (d := d_Client__is_pending) rfl
  obtain ⟨fd_Client__forget, F_Client__forget⟩ := c.def_ 76 (d := d_Client__forget) rfl
  obtain ⟨fd_Client__accept, F_Client__accept⟩ := c.def_ 77 (d := d_Client__accept) rfl
  obtain ⟨fd_Client_receive, F_Client_receive⟩ := c.def_ 78 (d := d_Client_receive) rfl
  obtain ⟨fd_Client_accepted, F_Client_accepted⟩ := c.def_ 79 (d := d_Client_accepted) rfl
  obtain ⟨fd_Client_pieces, F_Client_pieces⟩ := c.def_ 80 (d := d_Client_pieces) rfl
  have g_is_key := He.glo_ok X G (c.fact 0 (f := .glo "is_key") rfl)
  have g_is_bound := He.glo_ok X G (c.fact 1 (f := .glo "is_bound") rfl)
  have g_is_range := He.glo_ok X G (c.fact 2 (f := .glo "is_range") rfl)
  have g_below := He.glo_ok X G (c.fact 3 (f := .glo "below") rfl)
  have g_contains := He.glo_ok X G (c.fact 4 (f := .glo "contains") rfl)
  have g_overlap := He.glo_ok X G (c.fact 5 (f := .glo "overlap") rfl)
  have g_is_printable := He.glo_ok X G (c.fact 6 (f := .glo "is_printable") rfl)
  have g_is_integer := He.glo_ok X G (c.fact 7 (f := .glo "is_integer") rfl)
  have g_kind_of := He.glo_ok X G (c.fact 8 (f := .glo "kind_of") rfl)
  have g_is_value := He.glo_ok X G (c.fact 9 (f := .glo "is_value") rfl)
  have g__is_pair := He.glo_ok X G (c.fact 10 (f := .glo "_is_pair") rfl)
  have g_are_pairs := He.glo_ok X G (c.fact 11 (f := .glo "are_pairs") rfl)
  have g__is_key_alone := He.glo_ok X G (c.fact 12 (f := .glo "_is_key_alone") rfl)
  have g__is_put := He.glo_ok X G (c.fact 13 (f := .glo "_is_put") rfl)
  have g__is_swap := He.glo_ok X G (c.fact 14 (f := .glo "_is_swap") rfl)
  have g__is_page := He.glo_ok X G (c.fact 15 (f := .glo "_is_page") rfl)
  have g_is_operation := He.glo_ok X G (c.fact 16 (f := .glo "is_operation") rfl)
  have g_place := He.glo_ok X G (c.fact 17 (f := .glo "place") rfl)
  have g__is_word_alone := He.glo_ok X G (c.fact 18 (f := .glo "_is_word_alone") rfl)
  have g__is_value_told := He.glo_ok X G (c.fact 19 (f := .glo "_is_value_told") rfl)
  have g__is_page_told := He.glo_ok X G (c.fact 20 (f := .glo "_is_page_told") rfl)
  have g_is_answer := He.glo_ok X G (c.fact 21 (f := .glo "is_answer") rfl)
  have g_is_server := He.glo_ok X G (c.fact 22 (f := .glo "is_server") rfl)
  have g_is_client := He.glo_ok X G (c.fact 23 (f := .glo "is_client") rfl)
  have g_is_pairs := He.glo_ok X G (c.fact 24 (f := .glo "is_pairs") rfl)
  have g_is_number := He.glo_ok X G (c.fact 25 (f := .glo "is_number") rfl)
  have g__is_row := He.glo_ok X G (c.fact 26 (f := .glo "_is_row") rfl)
  have g_is_rows := He.glo_ok X G (c.fact 27 (f := .glo "is_rows") rfl)
  have g__is_ask := He.glo_ok X G (c.fact 28 (f := .glo "_is_ask") rfl)
  have g__is_where := He.glo_ok X G (c.fact 29 (f := .glo "_is_where") rfl)
  have g__is_told := He.glo_ok X G (c.fact 30 (f := .glo "_is_told") rfl)
  have g__is_elsewhere := He.glo_ok X G (c.fact 31 (f := .glo "_is_elsewhere") rfl)
  have g_names_shard := He.glo_ok X G (c.fact 32 (f := .glo "names_shard") rfl)
  have g__names_server := He.glo_ok X G (c.fact 33 (f := .glo "_names_server") rfl)
  have g__is_split := He.glo_ok X G (c.fact 34 (f := .glo "_is_split") rfl)
  have g__is_join := He.glo_ok X G (c.fact 35 (f := .glo "_is_join") rfl)
  have g__is_have := He.glo_ok X G (c.fact 36 (f := .glo "_is_have") rfl)
  have g__is_content := He.glo_ok X G (c.fact 37 (f := .glo "_is_content") rfl)
  have g__is_receipt := He.glo_ok X G (c.fact 38 (f := .glo "_is_receipt") rfl)
  have g_is_letter := He.glo_ok X G (c.fact 39 (f := .glo "is_letter") rfl)
  have g__is_party := He.glo_ok X G (c.fact 40 (f := .glo "_is_party") rfl)
  have g_check_letter := He.glo_ok X G (c.fact 41 (f := .glo "check_letter") rfl)
  have g__lesser := He.glo_ok X G (c.fact 42 (f := .glo "_lesser") rfl)
  have g_apart := He.glo_ok X G (c.fact 43 (f := .glo "apart") rfl)
  have g_filled := He.glo_ok X G (c.fact 44 (f := .glo "filled") rfl)
  have g_fused := He.glo_ok X G (c.fact 45 (f := .glo "fused") rfl)
  have g__newer := He.glo_ok X G (c.fact 46 (f := .glo "_newer") rfl)
  have g__law_cell := He.glo_ok X G (c.fact 47 (f := .glo "_law_cell") rfl)
  have g__law_rich := He.glo_ok X G (c.fact 48 (f := .glo "_law_rich") rfl)
  have g__law_word := He.glo_ok X G (c.fact 49 (f := .glo "_law_word") rfl)
  have g__law_key := He.glo_ok X G (c.fact 50 (f := .glo "_law_key") rfl)
  have g__law_bound := He.glo_ok X G (c.fact 51 (f := .glo "_law_bound") rfl)
  have g__law_value := He.glo_ok X G (c.fact 52 (f := .glo "_law_value") rfl)
  have g__law_operation := He.glo_ok X G (c.fact 53 (f := .glo "_law_operation") rfl)
  have g__law_part := He.glo_ok X G (c.fact 54 (f := .glo "_law_part") rfl)
  have g__law_letters := He.glo_ok X G (c.fact 55 (f := .glo "_law_letters") rfl)
  have g__law_there := He.glo_ok X G (c.fact 56 (f := .glo "_law_there") rfl)
  have g__law_elsewhere := He.glo_ok X G (c.fact 57 (f := .glo "_law_elsewhere") rfl)
  have g__law_answer := He.glo_ok X G (c.fact 58 (f := .glo "_law_answer") rfl)
  have g__law_strange := He.glo_ok X G (c.fact 59 (f := .glo "_law_strange") rfl)
  have g__law_call := He.glo_ok X G (c.fact 60 (f := .glo "_law_call") rfl)
  have g__law_pieces := He.glo_ok X G (c.fact 61 (f := .glo "_law_pieces") rfl)
  have g__law_same := He.glo_ok X G (c.fact 62 (f := .glo "_law_same") rfl)
  have g_law := He.glo_ok X G (c.fact 63 (f := .glo "law") rfl)
  have g_OPERATIONS := He.glo_ok X G (c.fact 64 (f := .glo "OPERATIONS") rfl)
  have g_ANSWERS := He.glo_ok X G (c.fact 65 (f := .glo "ANSWERS") rfl)
  have g_FORMS := He.glo_ok X G (c.fact 66 (f := .glo "FORMS") rfl)
  have g_ROUTES := He.glo_ok X G (c.fact 67 (f := .glo "ROUTES") rfl)
  have g_Routes := He.glo_ok X G (c.fact 68 (f := .glo "Routes") rfl)
  have g_Client := He.glo_ok X G (c.fact 69 (f := .glo "Client") rfl)
  have g_TableError := He.glo_ok X G (c.fact 70 (f := .glo "TableError") rfl)
  have g_BadOperation := He.glo_ok X G (c.fact 71 (f := .glo "BadOperation") rfl)
  have g_BadLetter := He.glo_ok X G (c.fact 72 (f := .glo "BadLetter") rfl)
  have g_BadServer := He.glo_ok X G (c.fact 73 (f := .glo "BadServer") rfl)
  have z_len := He.free_ok X G (c.fact 74 (f := .free "len") rfl)
  have z_isinstance := He.free_ok X G (c.fact 75 (f := .free "isinstance") rfl)
  have z_str := He.free_ok X G (c.fact 76 (f := .free "str") rfl)
  have z_ord := He.free_ok X G (c.fact 77 (f := .free "ord") rfl)
  have z_bool := He.free_ok X G (c.fact 78 (f := .free "bool") rfl)
  have z_int := He.free_ok X G (c.fact 79 (f := .free "int") rfl)
  have z_tuple := He.free_ok X G (c.fact 80 (f := .free "tuple") rfl)
  have z_max := He.free_ok X G (c.fact 81 (f := .free "max") rfl)
  have z_sorted := He.free_ok X G (c.fact 82 (f := .free "sorted") rfl)
  have z_list := He.free_ok X G (c.fact 83 (f := .free "list") rfl)
  have z_range := He.free_ok X G (c.fact 84 (f := .free "range") rfl)
  have c_MOST_KEY := He.int_ok X G (c.fact 85 (f := .int "MOST_KEY" 8) rfl)
  have c_BARRED := He.int_ok X G (c.fact 86 (f := .int "BARRED" 37) rfl)
  have c_MOST_VALUE := He.int_ok X G (c.fact 87 (f := .int "MOST_VALUE" 40) rfl)
  have c_MOST_PAGE := He.int_ok X G (c.fact 88 (f := .int "MOST_PAGE" 50) rfl)
  have c_MOST_CLIENTS := He.int_ok X G (c.fact 89 (f := .int "MOST_CLIENTS" 100) rfl)
  have c_MOST_NUMBER := He.int_ok X G (c.fact 90 (f := .int "MOST_NUMBER" 1000000000000) rfl)
  have c_DIRECTORY := He.int_ok X G (c.fact 91 (f := .int "DIRECTORY" 1000) rfl)
  have c_MOST_SERVERS := He.int_ok X G (c.fact 92 (f := .int "MOST_SERVERS" 20) rfl)
  have mo : ex K = true := y.more
  have mo := (Bool.and_eq_true_iff.mp mo).1
  obtain ⟨mo, w_ROUTES⟩ := Bool.and_eq_true_iff.mp mo
  have t_ROUTES : TabQ K w mg "ROUTES" _ := tabq_of g_ROUTES (says_dic y.t 3) w_ROUTES
  obtain ⟨mo, w_FORMS⟩ := Bool.and_eq_true_iff.mp mo
  have t_FORMS : TabQ K w mg "FORMS" _ := tabq_of g_FORMS (says_dic y.t 2) w_FORMS
  obtain ⟨mo, w_ANSWERS⟩ := Bool.and_eq_true_iff.mp mo
  have t_ANSWERS : TabQ K w mg "ANSWERS" _ := tabq_of g_ANSWERS (says_dic y.t 1) w_ANSWERS
  obtain ⟨mo, w_OPERATIONS⟩ := Bool.and_eq_true_iff.mp mo
  have t_OPERATIONS : TabQ K w mg "OPERATIONS" _ := tabq_of g_OPERATIONS (says_dic y.t 0) w_OPERATIONS
  have x_BadOperation : ExcQ K mg "BadOperation" := exq_of g_BadOperation (c.fact 93 (f := .exc "BadOperation") rfl)
  have x_BadLetter : ExcQ K mg "BadLetter" := exq_of g_BadLetter (c.fact 94 (f := .exc "BadLetter") rfl)
  have x_BadServer : ExcQ K mg "BadServer" := exq_of g_BadServer (c.fact 95 (f := .exc "BadServer") rfl)
  have em_BadLetter : ExmQ K ["TableError", "BadOperation", "BadLetter", "BadServer"] (.ref (He.ga K "BadLetter")) ["BadLetter"] := fun x hx => by
    simp only [List.mem_cons, List.not_mem_nil, or_false] at hx
    rcases hx with rfl | rfl | rfl | rfl
    · exact He.exm_ok (c.fact 96 (f := .exm "TableError" "BadLetter" false) rfl)
    · exact He.exm_ok (c.fact 97 (f := .exm "BadOperation" "BadLetter" false) rfl)
    · exact He.exm_ok (c.fact 98 (f := .exm "BadLetter" "BadLetter" true) rfl)
    · exact He.exm_ok (c.fact 99 (f := .exm "BadServer" "BadLetter" false) rfl)
  have e := hfa.symm.trans g_law
  cases e
  have b := L2.FunD.bindsA (ps := ["script"]) F_law fun _ _ _ _ _ _ us hl => match us, hl with | [_], _ => rfl
  refine ⟨fd_law, fun s v => b s [v] rfl, fun base _ _ hT => ?_⟩
  have l_Routes := He.cls_ok (c.fact 100 (f := .cls "Routes") rfl)
  have l_Client := He.cls_ok (c.fact 101 (f := .cls "Client") rfl)
  have n_Routes__pieces := He.noat_ok (c.fact 102 (f := .noat "Routes" "_pieces") rfl)
  have n_Client__name := He.noat_ok (c.fact 103 (f := .noat "Client" "_name") rfl)
  have n_Client__count := He.noat_ok (c.fact 104 (f := .noat "Client" "_count") rfl)
  have n_Client__routes := He.noat_ok (c.fact 105 (f := .noat "Client" "_routes") rfl)
  have n_Client__ops := He.noat_ok (c.fact 106 (f := .noat "Client" "_ops") rfl)
  have n_Client__accepted := He.noat_ok (c.fact 107 (f := .noat "Client" "_accepted") rfl)
  have T_fused := hT (("fused", none), ("fused" ++ ".<locals>." ++ "<lambda>")) (by simp [tq])
  have D_is_key : DefQ P w K mg base _ _ _ _ := dq_mk (st := s_is_key) F_is_key g_is_key (F_is_key.bindsN fun _ _ _ _ _ _ us hl => match us, hl with | [_], _ => rfl) (ok_is_key F_is_key z_len c_MOST_KEY z_isinstance z_str)
  have D_is_bound : DefQ P w K mg base _ _ _ _ := dq_mk (st := s_is_bound) F_is_bound g_is_bound (F_is_bound.bindsN fun _ _ _ _ _ _ us hl => match us, hl with | [_], _ => rfl) (ok_is_bound F_is_bound z_isinstance z_str D_is_key)
  have D_is_range : DefQ P w K mg base _ _ _ _ := dq_mk (st := s_is_range) F_is_range g_is_range (F_is_range.bindsN fun _ _ _ _ _ _ us hl => match us, hl with | [_, _], _ => rfl) (ok_is_range F_is_range D_is_bound D_is_key)
  have D_below : DefQ P w K mg base _ _ _ _ := dq_mk (st := s_below) F_below g_below (F_below.bindsN fun _ _ _ _ _ _ us hl => match us, hl with | [_, _], _ => rfl) (ok_below F_below )
  have D_contains : DefQ P w K mg base _ _ _ _ := dq_mk (st := s_contains) F_contains g_contains (F_contains.bindsN fun _ _ _ _ _ _ us hl => match us, hl with | [_, _, _], _ => rfl) (ok_contains F_contains D_below)
  have D_overlap : DefQ P w K mg base _ _ _ _ := dq_mk (st := s_overlap) F_overlap g_overlap (F_overlap.bindsN fun _ _ _ _ _ _ us hl => match us, hl with | [_, _, _, _], _ => rfl) (ok_overlap F_overlap D_below)
  have D_is_printable : DefQ P w K mg base _ _ _ _ := dq_mk (st := s_is_printable) F_is_printable g_is_printable (F_is_printable.bindsN fun _ _ _ _ _ _ us hl => match us, hl with | [_], _ => rfl) (ok_is_printable F_is_printable z_isinstance z_str z_ord c_BARRED)
  have D_is_integer : DefQ P w K mg base _ _ _ _ := dq_mk (st := s_is_integer) F_is_integer g_is_integer (F_is_integer.bindsN fun _ _ _ _ _ _ us hl => match us, hl with | [_, _, _], _ => rfl) (ok_is_integer F_is_integer z_isinstance z_bool z_int)
  have D_kind_of : DefQ P w K mg base _ _ _ _ := dq_mk (st := s_kind_of) F_kind_of g_kind_of (F_kind_of.bindsN fun _ _ _ _ _ _ us hl => match us, hl with | [_], _ => rfl) (ok_kind_of F_kind_of z_isinstance z_str z_len z_tuple)
  have D_is_value : DefQ P w K mg base _ _ _ _ := dq_mk (st := s_is_value) F_is_value g_is_value (F_is_value.bindsN fun _ _ _ _ _ _ us hl => match us, hl with | [_], _ => rfl) (ok_is_value F_is_value z_len c_MOST_VALUE D_is_printable)
  have D__is_pair : DefQ P w K mg base _ _ _ _ := dq_mk (st := s__is_pair) F__is_pair g__is_pair (F__is_pair.bindsN fun _ _ _ _ _ _ us hl => match us, hl with | [_], _ => rfl) (ok__is_pair F__is_pair D_is_value D_is_key z_len z_isinstance z_tuple)
  have D_are_pairs : DefQ P w K mg base _ _ _ _ := dq_mk (st := s_are_pairs) F_are_pairs g_are_pairs (F_are_pairs.bindsN fun _ _ _ _ _ _ us hl => match us, hl with | [_], _ => rfl) (ok_are_pairs F_are_pairs z_isinstance z_tuple D__is_pair)
  have D__is_key_alone : DefQ P w K mg base _ _ _ _ := dq_mk (st := s__is_key_alone) F__is_key_alone g__is_key_alone (F__is_key_alone.bindsN fun _ _ _ _ _ _ us hl => match us, hl with | [_], _ => rfl) (ok__is_key_alone F__is_key_alone D_is_key z_len)
  have D__is_put : DefQ P w K mg base _ _ _ _ := dq_mk (st := s__is_put) F__is_put g__is_put (F__is_put.bindsN fun _ _ _ _ _ _ us hl => match us, hl with | [_], _ => rfl) (ok__is_put F__is_put D_is_value D_is_key z_len)
  have D__is_swap : DefQ P w K mg base _ _ _ _ := dq_mk (st := s__is_swap) F__is_swap g__is_swap (F__is_swap.bindsN fun _ _ _ _ _ _ us hl => match us, hl with | [_], _ => rfl) (ok__is_swap F__is_swap D_is_value D_is_key z_len)
  have D__is_page : DefQ P w K mg base _ _ _ _ := dq_mk (st := s__is_page) F__is_page g__is_page (F__is_page.bindsN fun _ _ _ _ _ _ us hl => match us, hl with | [_], _ => rfl) (ok__is_page F__is_page c_MOST_PAGE D_is_integer D_is_bound z_len)
  have D_is_operation : DefQ P w K mg base _ _ _ _ := dq_mk (st := s_is_operation) F_is_operation g_is_operation (F_is_operation.bindsN fun _ _ _ _ _ _ us hl => match us, hl with | [_], _ => rfl) (ok_is_operation F_is_operation D_kind_of t_OPERATIONS D__is_page g__is_page D__is_swap g__is_swap D__is_put g__is_put D__is_key_alone g__is_key_alone)
  have D_place : DefQ P w K mg base _ _ _ _ := dq_mk (st := s_place) F_place g_place (F_place.bindsN fun _ _ _ _ _ _ us hl => match us, hl with | [_], _ => rfl) (ok_place F_place D_is_operation x_BadOperation)
  have D__is_word_alone : DefQ P w K mg base _ _ _ _ := dq_mk (st := s__is_word_alone) F__is_word_alone g__is_word_alone (F__is_word_alone.bindsN fun _ _ _ _ _ _ us hl => match us, hl with | [_], _ => rfl) (ok__is_word_alone F__is_word_alone z_len)
  have D__is_value_told : DefQ P w K mg base _ _ _ _ := dq_mk (st := s__is_value_told) F__is_value_told g__is_value_told (F__is_value_told.bindsN fun _ _ _ _ _ _ us hl => match us, hl with | [_], _ => rfl) (ok__is_value_told F__is_value_told D_is_value z_len)
  have D__is_page_told : DefQ P w K mg base _ _ _ _ := dq_mk (st := s__is_page_told) F__is_page_told g__is_page_told (F__is_page_told.bindsN fun _ _ _ _ _ _ us hl => match us, hl with | [_], _ => rfl) (ok__is_page_told F__is_page_told z_len c_MOST_PAGE D_are_pairs D_is_key D_below)
  have D_is_answer : DefQ P w K mg base _ _ _ _ := dq_mk (st := s_is_answer) F_is_answer g_is_answer (F_is_answer.bindsN fun _ _ _ _ _ _ us hl => match us, hl with | [_], _ => rfl) (ok_is_answer F_is_answer D_kind_of t_ANSWERS D__is_page_told g__is_page_told D__is_word_alone g__is_word_alone D__is_value_told g__is_value_told)
  have D_is_server : DefQ P w K mg base _ _ _ _ := dq_mk (st := s_is_server) F_is_server g_is_server (F_is_server.bindsN fun _ _ _ _ _ _ us hl => match us, hl with | [_, _], _ => rfl) (ok_is_server F_is_server D_is_integer)
  have D_is_client : DefQ P w K mg base _ _ _ _ := dq_mk (st := s_is_client) F_is_client g_is_client (F_is_client.bindsN fun _ _ _ _ _ _ us hl => match us, hl with | [_], _ => rfl) (ok_is_client F_is_client c_MOST_CLIENTS D_is_integer)
  have D_is_pairs : DefQ P w K mg base _ _ _ _ := dq_mk (st := s_is_pairs) F_is_pairs g_is_pairs (F_is_pairs.bindsN fun _ _ _ _ _ _ us hl => match us, hl with | [_, _, _], _ => rfl) (ok_is_pairs F_is_pairs D_are_pairs D_contains)
  have D_is_number : DefQ P w K mg base _ _ _ _ := dq_mk (st := s_is_number) F_is_number g_is_number (F_is_number.bindsN fun _ _ _ _ _ _ us hl => match us, hl with | [_], _ => rfl) (ok_is_number F_is_number c_MOST_NUMBER D_is_integer)
  have D__is_row : DefQ P w K mg base _ _ _ _ := dq_mk (st := s__is_row) F__is_row g__is_row (F__is_row.bindsN fun _ _ _ _ _ _ us hl => match us, hl with | [_], _ => rfl) (ok__is_row F__is_row z_len z_isinstance z_tuple D_is_answer D_is_number D_is_client)
  have D_is_rows : DefQ P w K mg base _ _ _ _ := dq_mk (st := s_is_rows) F_is_rows g_is_rows (F_is_rows.bindsN fun _ _ _ _ _ _ us hl => match us, hl with | [_], _ => rfl) (ok_is_rows F_is_rows z_isinstance z_tuple D__is_row)
  have D__is_ask : DefQ P w K mg base _ _ _ _ := dq_mk (st := s__is_ask) F__is_ask g__is_ask (F__is_ask.bindsN fun _ _ _ _ _ _ us hl => match us, hl with | [_, _], _ => rfl) (ok__is_ask F__is_ask D_is_operation D_is_number z_len)
  have D__is_where : DefQ P w K mg base _ _ _ _ := dq_mk (st := s__is_where) F__is_where g__is_where (F__is_where.bindsN fun _ _ _ _ _ _ us hl => match us, hl with | [_, _], _ => rfl) (ok__is_where F__is_where D_is_bound z_len)
  have D__is_told : DefQ P w K mg base _ _ _ _ := dq_mk (st := s__is_told) F__is_told g__is_told (F__is_told.bindsN fun _ _ _ _ _ _ us hl => match us, hl with | [_, _], _ => rfl) (ok__is_told F__is_told D_is_answer D_is_number z_len)
  have D__is_elsewhere : DefQ P w K mg base _ _ _ _ := dq_mk (st := s__is_elsewhere) F__is_elsewhere g__is_elsewhere (F__is_elsewhere.bindsN fun _ _ _ _ _ _ us hl => match us, hl with | [_, _], _ => rfl) (ok__is_elsewhere F__is_elsewhere D_is_number z_len)
  have D_names_shard : DefQ P w K mg base _ _ _ _ := dq_mk (st := s_names_shard) F_names_shard g_names_shard (F_names_shard.bindsN fun _ _ _ _ _ _ us hl => match us, hl with | [_, _], _ => rfl) (ok_names_shard F_names_shard D_is_number D_is_range z_len)
  have D__names_server : DefQ P w K mg base _ _ _ _ := dq_mk (st := s__names_server) F__names_server g__names_server (F__names_server.bindsN fun _ _ _ _ _ _ us hl => match us, hl with | [_, _], _ => rfl) (ok__names_server F__names_server D_is_server D_names_shard)
  have D__is_split : DefQ P w K mg base _ _ _ _ := dq_mk (st := s__is_split) F__is_split g__is_split (F__is_split.bindsN fun _ _ _ _ _ _ us hl => match us, hl with | [_, _], _ => rfl) (ok__is_split F__is_split D_names_shard D_below D_is_key)
  have D__is_join : DefQ P w K mg base _ _ _ _ := dq_mk (st := s__is_join) F__is_join g__is_join (F__is_join.bindsN fun _ _ _ _ _ _ us hl => match us, hl with | [_, _], _ => rfl) (ok__is_join F__is_join z_len D_is_range D_is_number)
  have D__is_have : DefQ P w K mg base _ _ _ _ := dq_mk (st := s__is_have) F__is_have g__is_have (F__is_have.bindsN fun _ _ _ _ _ _ us hl => match us, hl with | [_, _], _ => rfl) (ok__is_have F__is_have D_is_bound c_MOST_NUMBER D_is_integer D_names_shard)
  have D__is_content : DefQ P w K mg base _ _ _ _ := dq_mk (st := s__is_content) F__is_content g__is_content (F__is_content.bindsN fun _ _ _ _ _ _ us hl => match us, hl with | [_, _], _ => rfl) (ok__is_content F__is_content D_names_shard D_is_rows D_is_pairs)
  have D__is_receipt : DefQ P w K mg base _ _ _ _ := dq_mk (st := s__is_receipt) F__is_receipt g__is_receipt (F__is_receipt.bindsN fun _ _ _ _ _ _ us hl => match us, hl with | [_, _], _ => rfl) (ok__is_receipt F__is_receipt D_names_shard)
  have D_is_letter : DefQ P w K mg base _ _ _ _ := dq_mk (st := s_is_letter) F_is_letter g_is_letter (F_is_letter.bindsN fun _ _ _ _ _ _ us hl => match us, hl with | [_, _], _ => rfl) (ok_is_letter F_is_letter D_kind_of t_FORMS D__is_receipt g__is_receipt D__is_content g__is_content D__is_have g__is_have D__is_join g__is_join D__is_split g__is_split D__names_server g__names_server D__is_elsewhere g__is_elsewhere D__is_told g__is_told D__is_where g__is_where D__is_ask g__is_ask)
  have D__is_party : DefQ P w K mg base _ _ _ _ := dq_mk (st := s__is_party) F__is_party g__is_party (F__is_party.bindsN fun _ _ _ _ _ _ us hl => match us, hl with | [_, _, _], _ => rfl) (ok__is_party F__is_party D_is_client D_is_server c_DIRECTORY D_is_integer)
  have D_check_letter : DefQ P w K mg base _ _ _ _ := dq_mk (st := s_check_letter) F_check_letter g_check_letter (F_check_letter.bindsN fun _ _ _ _ _ _ us hl => match us, hl with | [_, _, _, _], _ => rfl) (ok_check_letter F_check_letter D_is_letter x_BadLetter t_ROUTES D__is_party)
  have D__lesser : DefQ P w K mg base _ _ _ _ := dq_mk (st := s__lesser) F__lesser g__lesser (F__lesser.bindsN fun _ _ _ _ _ _ us hl => match us, hl with | [_, _], _ => rfl) (ok__lesser F__lesser D_below)
  have D_apart : DefQ P w K mg base _ _ _ _ := dq_mk (st := s_apart) F_apart g_apart (F_apart.bindsN fun _ _ _ _ _ _ us hl => match us, hl with | [_, _, _], _ => rfl) (ok_apart F_apart D__lesser D_overlap z_max D_below)
  have D_filled : DefQ P w K mg base _ _ _ _ := dq_mk (st := s_filled) F_filled g_filled (F_filled.bindsN fun _ _ _ _ _ _ us hl => match us, hl with | [_, _, _, _], _ => rfl) (ok_filled F_filled D_below)
  have D_fused : DefQ P w K mg base _ _ _ _ := dq_mk (st := s_fused) F_fused g_fused (F_fused.bindsN fun _ _ _ _ _ _ us hl => match us, hl with | [_], _ => rfl) (ok_fused F_fused z_sorted T_fused z_len)
  have K_Routes : MakQ P w K mg base _ "Routes" _ _ := ⟨g_Routes, _, _, ok_Routes___init__ F_Routes___init__ l_Routes n_Routes__pieces, He.mkr_ok (c.fact 123 (f := .mkr "Routes") rfl), F_Routes___init__.bindsN fun _ _ _ _ _ _ us hl => match us, hl with | [_], _ => rfl⟩
  have D__newer : DefQ P w K mg base _ _ _ _ := dq_mk (st := s__newer) F__newer g__newer (F__newer.bindsN fun _ _ _ _ _ _ us hl => match us, hl with | [_, _], _ => rfl) (ok__newer F__newer )
  have M_Routes_add : MetQ P w K mg base _ "Routes" "add" _ _ := ⟨l_Routes, _, _, ok_Routes_add F_Routes_add l_Routes n_Routes__pieces D_apart D_filled D__newer D_fused, He.meth_ok (c.fact 108 (f := .meth "Routes" "add") rfl), F_Routes_add.bindsN fun _ _ _ _ _ _ us hl => match us, hl with | [_, _], _ => rfl⟩
  have M_Routes_pieces : MetQ P w K mg base _ "Routes" "pieces" _ _ := ⟨l_Routes, _, _, ok_Routes_pieces F_Routes_pieces z_list l_Routes n_Routes__pieces, He.meth_ok (c.fact 109 (f := .meth "Routes" "pieces") rfl), F_Routes_pieces.bindsN fun _ _ _ _ _ _ us hl => match us, hl with | [_], _ => rfl⟩
  have M_Routes_find : MetQ P w K mg base _ "Routes" "find" _ _ := ⟨l_Routes, _, _, ok_Routes_find F_Routes_find l_Routes n_Routes__pieces D_contains, He.meth_ok (c.fact 110 (f := .meth "Routes" "find") rfl), F_Routes_find.bindsN fun _ _ _ _ _ _ us hl => match us, hl with | [_, _], _ => rfl⟩
  have M_Routes_drop : MetQ P w K mg base _ "Routes" "drop" _ _ := ⟨l_Routes, _, _, ok_Routes_drop F_Routes_drop l_Routes n_Routes__pieces D_contains, He.meth_ok (c.fact 111 (f := .meth "Routes" "drop") rfl), F_Routes_drop.bindsN fun _ _ _ _ _ _ us hl => match us, hl with | [_, _], _ => rfl⟩
  have K_Client : MakQ P w K mg base _ "Client" _ _ := ⟨g_Client, _, _, ok_Client___init__ F_Client___init__ c_MOST_SERVERS D_is_integer D_is_client x_BadServer l_Client n_Client__name n_Client__count K_Routes n_Client__routes n_Client__ops n_Client__accepted, He.mkr_ok (c.fact 124 (f := .mkr "Client") rfl), F_Client___init__.bindsN fun _ _ _ _ _ _ us hl => match us, hl with | [_, _, _], _ => rfl⟩
  have M_Client_pending : MetQ P w K mg base _ "Client" "pending" _ _ := ⟨l_Client, _, _, ok_Client_pending F_Client_pending z_len l_Client n_Client__accepted n_Client__ops, He.meth_ok (c.fact 112 (f := .meth "Client" "pending") rfl), F_Client_pending.bindsN fun _ _ _ _ _ _ us hl => match us, hl with | [_], _ => rfl⟩
  have M_Client__send : MetQ P w K mg base _ "Client" "_send" _ _ := ⟨l_Client, _, _, ok_Client__send F_Client__send M_Client_pending D_place l_Client n_Client__routes M_Routes_find c_DIRECTORY, He.meth_ok (c.fact 113 (f := .meth "Client" "_send") rfl), F_Client__send.bindsN fun _ _ _ _ _ _ us hl => match us, hl with | [_], _ => rfl⟩
  have M_Client_submit : MetQ P w K mg base _ "Client" "submit" _ _ := ⟨l_Client, _, _, ok_Client_submit F_Client_submit D_is_operation x_BadOperation M_Client_pending l_Client n_Client__ops M_Client__send, He.meth_ok (c.fact 114 (f := .meth "Client" "submit") rfl), F_Client_submit.bindsN fun _ _ _ _ _ _ us hl => match us, hl with | [_, _], _ => rfl⟩
  have M_Client_tick : MetQ P w K mg base _ "Client" "tick" _ _ := ⟨l_Client, _, _, ok_Client_tick F_Client_tick M_Client__send, He.meth_ok (c.fact 115 (f := .meth "Client" "tick") rfl), F_Client_tick.bindsN fun _ _ _ _ _ _ us hl => match us, hl with | [_], _ => rfl⟩
  have M_Client__learn : MetQ P w K mg base _ "Client" "_learn" _ _ := ⟨l_Client, _, _, ok_Client__learn F_Client__learn l_Client n_Client__routes M_Routes_add M_Client_pending D_place D_contains M_Client__send, He.meth_ok (c.fact 116 (f := .meth "Client" "_learn") rfl), F_Client__learn.bindsN fun _ _ _ _ _ _ us hl => match us, hl with | [_, _], _ => rfl⟩
  have M_Client__is_pending : MetQ P w K mg base _ "Client" "_is_pending" _ _ := ⟨l_Client, _, _, ok_Client__is_pending F_Client__is_pending M_Client_pending, He.meth_ok (c.fact 117 (f := .meth "Client" "_is_pending") rfl), F_Client__is_pending.bindsN fun _ _ _ _ _ _ us hl => match us, hl with | [_, _], _ => rfl⟩
  have M_Client__forget : MetQ P w K mg base _ "Client" "_forget" _ _ := ⟨l_Client, _, _, ok_Client__forget F_Client__forget M_Client__is_pending M_Client_pending D_place l_Client n_Client__routes M_Routes_find M_Routes_drop, He.meth_ok (c.fact 118 (f := .meth "Client" "_forget") rfl), F_Client__forget.bindsN fun _ _ _ _ _ _ us hl => match us, hl with | [_, _, _], _ => rfl⟩
  have M_Client__accept : MetQ P w K mg base _ "Client" "_accept" _ _ := ⟨l_Client, _, _, ok_Client__accept F_Client__accept M_Client__is_pending M_Client_pending l_Client n_Client__accepted M_Client__send, He.meth_ok (c.fact 119 (f := .meth "Client" "_accept") rfl), F_Client__accept.bindsN fun _ _ _ _ _ _ us hl => match us, hl with | [_, _], _ => rfl⟩
  have M_Client_receive : MetQ P w K mg base _ "Client" "receive" _ _ := ⟨l_Client, _, _, ok_Client_receive F_Client_receive l_Client n_Client__name n_Client__count D_check_letter x_BadLetter em_BadLetter M_Client__learn M_Client__forget M_Client__accept, He.meth_ok (c.fact 120 (f := .meth "Client" "receive") rfl), F_Client_receive.bindsN fun _ _ _ _ _ _ us hl => match us, hl with | [_, _, _], _ => rfl⟩
  have M_Client_accepted : MetQ P w K mg base _ "Client" "accepted" _ _ := ⟨l_Client, _, _, ok_Client_accepted F_Client_accepted z_list l_Client n_Client__accepted, He.meth_ok (c.fact 121 (f := .meth "Client" "accepted") rfl), F_Client_accepted.bindsN fun _ _ _ _ _ _ us hl => match us, hl with | [_], _ => rfl⟩
  have M_Client_pieces : MetQ P w K mg base _ "Client" "pieces" _ _ := ⟨l_Client, _, _, ok_Client_pieces F_Client_pieces l_Client n_Client__routes M_Routes_pieces, He.meth_ok (c.fact 122 (f := .meth "Client" "pieces") rfl), F_Client_pieces.bindsN fun _ _ _ _ _ _ us hl => match us, hl with | [_], _ => rfl⟩
  have D__law_cell : DefQ P w K mg base _ _ _ _ := dq_mk (st := s__law_cell) F__law_cell g__law_cell (F__law_cell.bindsN fun _ _ _ _ _ _ us hl => match us, hl with | [_, _], _ => rfl) (ok__law_cell F__law_cell z_len z_int)
  have D__law_rich : DefQ P w K mg base _ _ _ _ := dq_mk (st := s__law_rich) F__law_rich g__law_rich (F__law_rich.bindsN fun _ _ _ _ _ _ us hl => match us, hl with | [_, _], _ => rfl) (ok__law_rich F__law_rich z_int)
  have D__law_word : DefQ P w K mg base _ _ _ _ := dq_mk (st := s__law_word) F__law_word g__law_word (F__law_word.bindsN fun _ _ _ _ _ _ us hl => match us, hl with | [_, _, _], _ => rfl) (ok__law_word F__law_word z_int z_range z_len)
  have D__law_key : DefQ P w K mg base _ _ _ _ := dq_mk (st := s__law_key) F__law_key g__law_key (F__law_key.bindsN fun _ _ _ _ _ _ us hl => match us, hl with | [_], _ => rfl) (ok__law_key F__law_key z_int D__law_word)
  have D__law_bound : DefQ P w K mg base _ _ _ _ := dq_mk (st := s__law_bound) F__law_bound g__law_bound (F__law_bound.bindsN fun _ _ _ _ _ _ us hl => match us, hl with | [_], _ => rfl) (ok__law_bound F__law_bound z_int D__law_key)
  have D__law_value : DefQ P w K mg base _ _ _ _ := dq_mk (st := s__law_value) F__law_value g__law_value (F__law_value.bindsN fun _ _ _ _ _ _ us hl => match us, hl with | [_], _ => rfl) (ok__law_value F__law_value z_int D__law_word)
  have D__law_operation : DefQ P w K mg base _ _ _ _ := dq_mk (st := s__law_operation) F__law_operation g__law_operation (F__law_operation.bindsN fun _ _ _ _ _ _ us hl => match us, hl with | [_], _ => rfl) (ok__law_operation F__law_operation D__law_bound D__law_key D__law_value)
  have D__law_part : DefQ P w K mg base _ _ _ _ := dq_mk (st := s__law_part) F__law_part g__law_part (F__law_part.bindsN fun _ _ _ _ _ _ us hl => match us, hl with | [_], _ => rfl) (ok__law_part F__law_part )
  have D__law_letters : DefQ P w K mg base _ _ _ _ := dq_mk (st := s__law_letters) F__law_letters g__law_letters (F__law_letters.bindsN fun _ _ _ _ _ _ us hl => match us, hl with | [_], _ => rfl) (ok__law_letters F__law_letters z_len D__law_part)
  have D__law_there : DefQ P w K mg base _ _ _ _ := dq_mk (st := s__law_there) F__law_there g__law_there (F__law_there.bindsN fun _ _ _ _ _ _ us hl => match us, hl with | [_, _, _], _ => rfl) (ok__law_there F__law_there z_range z_len D__law_part D__law_letters)
  have D__law_elsewhere : DefQ P w K mg base _ _ _ _ := dq_mk (st := s__law_elsewhere) F__law_elsewhere g__law_elsewhere (F__law_elsewhere.bindsN fun _ _ _ _ _ _ us hl => match us, hl with | [_, _, _], _ => rfl) (ok__law_elsewhere F__law_elsewhere z_len D__law_part)
  have D__law_answer : DefQ P w K mg base _ _ _ _ := dq_mk (st := s__law_answer) F__law_answer g__law_answer (F__law_answer.bindsN fun _ _ _ _ _ _ us hl => match us, hl with | [_, _, _], _ => rfl) (ok__law_answer F__law_answer z_len D__law_letters)
  have D__law_strange : DefQ P w K mg base _ _ _ _ := dq_mk (st := s__law_strange) F__law_strange g__law_strange (F__law_strange.bindsN fun _ _ _ _ _ _ us hl => match us, hl with | [_, _, _], _ => rfl) (ok__law_strange F__law_strange z_len M_Client_receive)
  have D__law_call : DefQ P w K mg base _ _ _ _ := dq_mk (st := s__law_call) F__law_call g__law_call (F__law_call.bindsN fun _ _ _ _ _ _ us hl => match us, hl with | [_, _, _, _], _ => rfl) (ok__law_call F__law_call z_max z_len D__law_operation D__law_letters M_Client_submit M_Client_tick D__law_there M_Client_receive D__law_elsewhere D__law_answer D__law_strange)
  have D__law_pieces : DefQ P w K mg base _ _ _ _ := dq_mk (st := s__law_pieces) F__law_pieces g__law_pieces (F__law_pieces.bindsN fun _ _ _ _ _ _ us hl => match us, hl with | [_], _ => rfl) (ok__law_pieces F__law_pieces z_range)
  have D__law_same : DefQ P w K mg base _ _ _ _ := dq_mk (st := s__law_same) F__law_same g__law_same (F__law_same.bindsN fun _ _ _ _ _ _ us hl => match us, hl with | [_, _], _ => rfl) (ok__law_same F__law_same z_len M_Client_pending M_Client_accepted z_isinstance z_list M_Client_pieces D__law_pieces)
  exact ok_law F_law D__law_cell K_Client z_range z_len D__law_rich D__law_call D__law_same
end K58
open PySem PySem.W PySem.Calls PyProof.Rows
theorem PySem.Challenge.cw_boundstone_k58_client_step_by_step_holds : PySem.Challenge.rw_boundstone_k58_client_step_by_step.Holds := by
  w_on; o_law
  refine HandSHeadRun.head_any (r := OpenLaw.row PySem.Challenge.rw_boundstone_k58_client_step_by_step) (q := view (OpenLaw.row PySem.Challenge.rw_boundstone_k58_client_step_by_step).prog [90]) (H := K58.hk) (ob := K58.ob) (M := 8000) (loose := K58.loose) (d := HandSHeadRun.topDef (OpenLaw.row PySem.Challenge.rw_boundstone_k58_client_step_by_step).prog 90) (kwd := []) K58.ob_eq
    (by kernel_rfl) (fun s => by kernel_rfl) K58.run (by kernel_rfl) (by kernel_rfl) (by kernel_rfl) (by rfl) (by first | assumption | decide +kernel) (by decide +kernel) ⟨rfl, rfl, rfl, rfl, rfl, by decide +kernel⟩ ?hw ?hc
  case hw => w_witness2
  case hc =>
    refine LamX.walk_ofTsE (l := PySem.Challenge.rw_boundstone_k58_client_step_by_step) (n := 63) (k := 15) (x := "script") (CX := fun _ => L2.CX0) rfl (by decide) (by kernel_rfl) ⟨rfl, by decide, by decide⟩ ?F (fun _ _ _ _ _ z => z)
    intro w mg fa h Y G hmg0
    obtain ⟨K, KX, c⟩ := Y
    have hmg : mg ("law" : PySem.Str) = some (.ref fa) := by
      have e : (HandSHeadRun.topDef (OpenLaw.row PySem.Challenge.rw_boundstone_k58_client_step_by_step).prog 90).name = ("law" : PySem.Str) := by kernel_rfl
      rw [← e]
      exact hmg0
    obtain ⟨fd, hb, hF⟩ := K58.facts (P := (PySem.Challenge.rw_boundstone_k58_client_step_by_step).prog) (w := w) KX G hmg c
    have hn : Q.noLst K = true := by
      have mo : K58.ex K = true := c.more
      have mo := (Bool.and_eq_true_iff.mp mo).1
      have mo := (Bool.and_eq_true_iff.mp mo).1
      have mo := (Bool.and_eq_true_iff.mp mo).1
      have mo := (Bool.and_eq_true_iff.mp mo).1
      have mo := (Bool.and_eq_true_iff.mp mo).1
      exact mo
    have hd : Q.tabNd K K58.tq = true := by
      have mo : K58.ex K = true := c.more
      exact (Bool.and_eq_true_iff.mp mo).2
    have hp : ∀ p ∈ K58.tq, p.1 ∈ ([("fused", none)] : List He.Defn) := by decide
    exact ⟨K, KX, Q.lawAtT K58.tq KX hn hd (fun p z => c.hd _ (hp p z)) (fun p z => c.out _ (hp p z)) (fun p z => c.empty _ (hp p z)) hb Q.law_k58 hF⟩
