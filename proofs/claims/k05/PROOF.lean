
import PyProof.Rows.All
import Wide.All
import OpenK.AllK
import Wide.FinOn
import KE.KStateDown
import HandS.Base
import HandS.Call
import HandS.Ends
import HandS.More
import HandS.Words
import HandS.WordsExc
import HandS.Defaults
import HandS.Head0
import HandS.Head1
import HandS.Head2
import HandS.HeadEnd
import HandS.Ends
import HandS.HeadHook1
import HandS.HeadHook2
import HandS.HeadHook3
import HandS.HeadHook4
import HandS.SetKeys
import HandS.Flow
import HandS.ExcIs
import HandS.Sort
import HandS.Walk
import HandS.Text
import HandS.Rev
import HandS.FStr
import HandS.Wide
import HandS.WideBits
import HandS.NoneIn
import PyProof.SumWalkG
import KE.KeyNested
import HandS.Remove
import HandS.ReplaceDef
import HandS.ForMost
import HandS.TupAny
import HandS.Deep
import HandS.IsInst
import HandS.Style
import HandS.Steps
import HandS.Evl
import HandS.MakeKwOnly
import HandS.DictComp
import HandS.TryOnly
import PySem.Challenge.RW_vaultbridge_k05_final_blocks_stay
set_option Elab.async false
set_option linter.all false
set_option maxRecDepth 100000
set_option maxHeartbeats 0
namespace Pf
open PySem PySem.Spec PyProof.Rows L2
def top (i : Nat) : Stmt := PySem.Challenge.pw_vaultbridge_k05_final_blocks_stay.main.body.getD i (.Pass ⟨0, 0, 0, 0⟩)
abbrev s_Blocks_init : Stmt := inClass (top 2) 0
abbrev s_Blocks_has : Stmt := inClass (top 2) 1
abbrev s_Blocks_numbers : Stmt := inClass (top 2) 2
abbrev s_Blocks_parent : Stmt := inClass (top 2) 3
abbrev s_Blocks_place : Stmt := inClass (top 2) 6
abbrev s_Blocks_final : Stmt := inClass (top 2) 7
abbrev s_Blocks_is_live : Stmt := inClass (top 2) 8
abbrev s_Blocks_live_tips : Stmt := inClass (top 2) 9
abbrev s_Blocks_below : Stmt := inClass (top 2) 11
abbrev s_is_integer : Stmt := top 30
abbrev s_is_at_least : Stmt := top 31
abbrev s_is_text : Stmt := top 32
abbrev s_is_short_text : Stmt := top 33
abbrev s_is_account : Stmt := top 34
abbrev s_is_side : Stmt := top 35
abbrev s_is_set : Stmt := top 37
abbrev s_is_pair : Stmt := top 38
abbrev s_Config_init : Stmt := inClass (top 46) 0
abbrev s_Config_check_token : Stmt := inClass (top 46) 2
abbrev s_Config_home : Stmt := inClass (top 46) 3
abbrev s_Config_scale : Stmt := inClass (top 46) 4
abbrev s_Config_opening : Stmt := inClass (top 46) 7
abbrev s_Config_guards : Stmt := inClass (top 46) 8
abbrev s_Config_depth : Stmt := inClass (top 46) 9
abbrev s_Config_window : Stmt := inClass (top 46) 10
abbrev s_Config_delay : Stmt := inClass (top 46) 11
abbrev s_Config_bundle : Stmt := inClass (top 46) 12
abbrev s_check_list : Stmt := top 47
abbrev s_check_least : Stmt := top 48
abbrev s_check_token_row : Stmt := top 49
abbrev s_check_balance_row : Stmt := top 50
abbrev s_next_height : Stmt := top 93
abbrev s_after_block : Stmt := top 94
abbrev s_Sheet_init : Stmt := inClass (top 96) 0
abbrev s_Sheet_copy : Stmt := inClass (top 96) 1
abbrev s_copied : Stmt := top 97
abbrev s_held : Stmt := top 98
abbrev s_put : Stmt := top 99
abbrev s_State_init : Stmt := inClass (top 105) 0
abbrev s_State_copy : Stmt := inClass (top 105) 1
abbrev s_State_rise : Stmt := inClass (top 105) 22
abbrev s_opening_state : Stmt := top 106
abbrev s_Chain_init : Stmt := inClass (top 109) 0
abbrev s_Chain_add : Stmt := inClass (top 109) 1
abbrev s_Chain_numbers : Stmt := inClass (top 109) 4
abbrev s_Chain_parent : Stmt := inClass (top 109) 5
abbrev s_Chain_final : Stmt := inClass (top 109) 9
abbrev s_Chain_tips : Stmt := inClass (top 109) 10
abbrev s_Chain_check_block : Stmt := inClass (top 109) 15
abbrev s_Notary_init : Stmt := inClass (top 111) 0
abbrev s_L_pot : Stmt := top 113
abbrev s_L_next : Stmt := top 114
abbrev s_L_set : Stmt := top 115
abbrev s_L_config : Stmt := top 116
abbrev s_L_made : Stmt := top 117
abbrev s_L_line : Stmt := top 118
abbrev s_L_deep : Stmt := top 119
abbrev s_law : Stmt := top 120
def dd0 : He.DefD := ⟨("Blocks", some "__init__"), "__init__", "Blocks.__init__", defArgs s_Blocks_init, defBody s_Blocks_init, defScope s_Blocks_init, [], []⟩
def dd1 : He.DefD := ⟨("Blocks", some "has"), "has", "Blocks.has", defArgs s_Blocks_has, defBody s_Blocks_has, defScope s_Blocks_has, [], []⟩
def dd2 : He.DefD := ⟨("Blocks", some "numbers"), "numbers", "Blocks.numbers", defArgs s_Blocks_numbers, defBody s_Blocks_numbers, defScope s_Blocks_numbers, [], []⟩
def dd3 : He.DefD := ⟨("Blocks", some "parent"), "parent", "Blocks.parent", defArgs s_Blocks_parent, defBody s_Blocks_parent, defScope s_Blocks_parent, [], []⟩
def dd4 : He.DefD := ⟨("Blocks", some "place"), "place", "Blocks.place", defArgs s_Blocks_place, defBody s_Blocks_place, defScope s_Blocks_place, [], []⟩
def dd5 : He.DefD := ⟨("Blocks", some "final"), "final", "Blocks.final", defArgs s_Blocks_final, defBody s_Blocks_final, defScope s_Blocks_final, [], []⟩
def dd6 : He.DefD := ⟨("Blocks", some "is_live"), "is_live", "Blocks.is_live", defArgs s_Blocks_is_live, defBody s_Blocks_is_live, defScope s_Blocks_is_live, [], []⟩
def dd7 : He.DefD := ⟨("Blocks", some "live_tips"), "live_tips", "Blocks.live_tips", defArgs s_Blocks_live_tips, defBody s_Blocks_live_tips, defScope s_Blocks_live_tips, [], []⟩
def dd8 : He.DefD := ⟨("Blocks", some "_below"), "_below", "Blocks._below", defArgs s_Blocks_below, defBody s_Blocks_below, defScope s_Blocks_below, [], []⟩
def dd9 : He.DefD := ⟨("is_integer", none), "is_integer", "is_integer", defArgs s_is_integer, defBody s_is_integer, defScope s_is_integer, [], []⟩
def dd10 : He.DefD := ⟨("is_at_least", none), "is_at_least", "is_at_least", defArgs s_is_at_least, defBody s_is_at_least, defScope s_is_at_least, [], []⟩
def dd11 : He.DefD := ⟨("is_text", none), "is_text", "is_text", defArgs s_is_text, defBody s_is_text, defScope s_is_text, [], []⟩
def dd12 : He.DefD := ⟨("is_short_text", none), "is_short_text", "is_short_text", defArgs s_is_short_text, defBody s_is_short_text, defScope s_is_short_text, [], []⟩
def dd13 : He.DefD := ⟨("is_account", none), "is_account", "is_account", defArgs s_is_account, defBody s_is_account, defScope s_is_account, [], []⟩
def dd14 : He.DefD := ⟨("is_side", none), "is_side", "is_side", defArgs s_is_side, defBody s_is_side, defScope s_is_side, [], []⟩
def dd15 : He.DefD := ⟨("is_set", none), "is_set", "is_set", defArgs s_is_set, defBody s_is_set, defScope s_is_set, [], []⟩
def dd16 : He.DefD := ⟨("is_pair", none), "is_pair", "is_pair", defArgs s_is_pair, defBody s_is_pair, defScope s_is_pair, [], []⟩
def dd17 : He.DefD := ⟨("Config", some "__init__"), "__init__", "Config.__init__", defArgs s_Config_init, defBody s_Config_init, defScope s_Config_init, [], [("depth", .int 2), ("window", .int 4), ("delay", .int 2), ("bundle", .int 4)]⟩
def dd18 : He.DefD := ⟨("Config", some "check_token"), "check_token", "Config.check_token", defArgs s_Config_check_token, defBody s_Config_check_token, defScope s_Config_check_token, [], []⟩
def dd19 : He.DefD := ⟨("Config", some "home"), "home", "Config.home", defArgs s_Config_home, defBody s_Config_home, defScope s_Config_home, [], []⟩
def dd20 : He.DefD := ⟨("Config", some "scale"), "scale", "Config.scale", defArgs s_Config_scale, defBody s_Config_scale, defScope s_Config_scale, [], []⟩
def dd21 : He.DefD := ⟨("Config", some "opening"), "opening", "Config.opening", defArgs s_Config_opening, defBody s_Config_opening, defScope s_Config_opening, [], []⟩
def dd22 : He.DefD := ⟨("Config", some "guards"), "guards", "Config.guards", defArgs s_Config_guards, defBody s_Config_guards, defScope s_Config_guards, [], []⟩
def dd23 : He.DefD := ⟨("Config", some "depth"), "depth", "Config.depth", defArgs s_Config_depth, defBody s_Config_depth, defScope s_Config_depth, [], []⟩
def dd24 : He.DefD := ⟨("Config", some "window"), "window", "Config.window", defArgs s_Config_window, defBody s_Config_window, defScope s_Config_window, [], []⟩
def dd25 : He.DefD := ⟨("Config", some "delay"), "delay", "Config.delay", defArgs s_Config_delay, defBody s_Config_delay, defScope s_Config_delay, [], []⟩
def dd26 : He.DefD := ⟨("Config", some "bundle"), "bundle", "Config.bundle", defArgs s_Config_bundle, defBody s_Config_bundle, defScope s_Config_bundle, [], []⟩
def dd27 : He.DefD := ⟨("check_list", none), "check_list", "check_list", defArgs s_check_list, defBody s_check_list, defScope s_check_list, [], []⟩
def dd28 : He.DefD := ⟨("check_least", none), "check_least", "check_least", defArgs s_check_least, defBody s_check_least, defScope s_check_least, [], []⟩
def dd29 : He.DefD := ⟨("check_token_row", none), "check_token_row", "check_token_row", defArgs s_check_token_row, defBody s_check_token_row, defScope s_check_token_row, [], []⟩
def dd30 : He.DefD := ⟨("check_balance_row", none), "check_balance_row", "check_balance_row", defArgs s_check_balance_row, defBody s_check_balance_row, defScope s_check_balance_row, [], []⟩
def dd31 : He.DefD := ⟨("next_height", none), "next_height", "next_height", defArgs s_next_height, defBody s_next_height, defScope s_next_height, [], []⟩
def dd32 : He.DefD := ⟨("after_block", none), "after_block", "after_block", defArgs s_after_block, defBody s_after_block, defScope s_after_block, [], []⟩
def dd33 : He.DefD := ⟨("Sheet", some "__init__"), "__init__", "Sheet.__init__", defArgs s_Sheet_init, defBody s_Sheet_init, defScope s_Sheet_init, [], []⟩
def dd34 : He.DefD := ⟨("Sheet", some "copy"), "copy", "Sheet.copy", defArgs s_Sheet_copy, defBody s_Sheet_copy, defScope s_Sheet_copy, [], []⟩
def dd35 : He.DefD := ⟨("copied", none), "copied", "copied", defArgs s_copied, defBody s_copied, defScope s_copied, [], []⟩
def dd36 : He.DefD := ⟨("held", none), "held", "held", defArgs s_held, defBody s_held, defScope s_held, [], []⟩
def dd37 : He.DefD := ⟨("put", none), "put", "put", defArgs s_put, defBody s_put, defScope s_put, [], []⟩
def dd38 : He.DefD := ⟨("State", some "__init__"), "__init__", "State.__init__", defArgs s_State_init, defBody s_State_init, defScope s_State_init, [], []⟩
def dd39 : He.DefD := ⟨("State", some "copy"), "copy", "State.copy", defArgs s_State_copy, defBody s_State_copy, defScope s_State_copy, [], []⟩
def dd40 : He.DefD := ⟨("State", some "rise"), "rise", "State.rise", defArgs s_State_rise, defBody s_State_rise, defScope s_State_rise, [], []⟩
def dd41 : He.DefD := ⟨("opening_state", none), "opening_state", "opening_state", defArgs s_opening_state, defBody s_opening_state, defScope s_opening_state, [], []⟩
def dd42 : He.DefD := ⟨("Chain", some "__init__"), "__init__", "Chain.__init__", defArgs s_Chain_init, defBody s_Chain_init, defScope s_Chain_init, [], []⟩
def dd43 : He.DefD := ⟨("Chain", some "add"), "add", "Chain.add", defArgs s_Chain_add, defBody s_Chain_add, defScope s_Chain_add, [], []⟩
def dd44 : He.DefD := ⟨("Chain", some "numbers"), "numbers", "Chain.numbers", defArgs s_Chain_numbers, defBody s_Chain_numbers, defScope s_Chain_numbers, [], []⟩
def dd45 : He.DefD := ⟨("Chain", some "parent"), "parent", "Chain.parent", defArgs s_Chain_parent, defBody s_Chain_parent, defScope s_Chain_parent, [], []⟩
def dd46 : He.DefD := ⟨("Chain", some "final"), "final", "Chain.final", defArgs s_Chain_final, defBody s_Chain_final, defScope s_Chain_final, [], []⟩
def dd47 : He.DefD := ⟨("Chain", some "tips"), "tips", "Chain.tips", defArgs s_Chain_tips, defBody s_Chain_tips, defScope s_Chain_tips, [], []⟩
def dd48 : He.DefD := ⟨("Chain", some "_check_block"), "_check_block", "Chain._check_block", defArgs s_Chain_check_block, defBody s_Chain_check_block, defScope s_Chain_check_block, [], []⟩
def dd49 : He.DefD := ⟨("Notary", some "__init__"), "__init__", "Notary.__init__", defArgs s_Notary_init, defBody s_Notary_init, defScope s_Notary_init, [], []⟩
def dd50 : He.DefD := ⟨("_law_pot", none), "_law_pot", "_law_pot", defArgs s_L_pot, defBody s_L_pot, defScope s_L_pot, [], []⟩
def dd51 : He.DefD := ⟨("_law_next", none), "_law_next", "_law_next", defArgs s_L_next, defBody s_L_next, defScope s_L_next, [], []⟩
def dd52 : He.DefD := ⟨("_law_set", none), "_law_set", "_law_set", defArgs s_L_set, defBody s_L_set, defScope s_L_set, [], []⟩
def dd53 : He.DefD := ⟨("_law_config", none), "_law_config", "_law_config", defArgs s_L_config, defBody s_L_config, defScope s_L_config, [], []⟩
def dd54 : He.DefD := ⟨("_law_made", none), "_law_made", "_law_made", defArgs s_L_made, defBody s_L_made, defScope s_L_made, [], []⟩
def dd55 : He.DefD := ⟨("_law_line", none), "_law_line", "_law_line", defArgs s_L_line, defBody s_L_line, defScope s_L_line, [], []⟩
def dd56 : He.DefD := ⟨("_law_deep", none), "_law_deep", "_law_deep", defArgs s_L_deep, defBody s_L_deep, defScope s_L_deep, [], []⟩
def dd57 : He.DefD := ⟨("law", none), "law", "law", defArgs s_law, defBody s_law, defScope s_law, [], []⟩
def KK0 (P : Params) : PySem.W.Frag := [(3, ⟨.type "dict", none, .dict [⟨PyData.keyHash P "__name__", .str "__name__" 165, .str "law_vaultbridge_k05_final_blocks_stay" 2139⟩, ⟨PyData.keyHash P "__doc__", .str "__doc__" 166, .none⟩, ⟨PyData.keyHash P "__package__", .str "__package__" 167, .none⟩, ⟨PyData.keyHash P "__loader__", .str "__loader__" 168, .builtin "__main__.__loader__#opaque"⟩, ⟨PyData.keyHash P "__spec__", .str "__spec__" 169, .none⟩, ⟨PyData.keyHash P "__annotations__", .str "__annotations__" 170, .ref 6⟩, ⟨PyData.keyHash P "__builtins__", .str "__builtins__" 171, .ref 4⟩, ⟨PyData.keyHash P "__file__", .str "__file__" 173, .str "/claim/cut.py" 172⟩, ⟨PyData.keyHash P "__cached__", .str "__cached__" 174, .none⟩, ⟨PyData.keyHash P "_wall", .str "_wall" 193, .ref 21⟩, ⟨PyData.keyHash P "Blocks", .str "Blocks" 316, .ref 113⟩, ⟨PyData.keyHash P "BridgeError", .str "BridgeError" 343, .ref 134⟩, ⟨PyData.keyHash P "InvalidArgument", .str "InvalidArgument" 359, .ref 147⟩, ⟨PyData.keyHash P "InvalidOrder", .str "InvalidOrder" 375, .ref 159⟩, ⟨PyData.keyHash P "UnknownToken", .str "UnknownToken" 391, .ref 171⟩, ⟨PyData.keyHash P "NotEnoughBalance", .str "NotEnoughBalance" 407, .ref 183⟩, ⟨PyData.keyHash P "NotEnoughWeight", .str "NotEnoughWeight" 423, .ref 195⟩, ⟨PyData.keyHash P "WrongSide", .str "WrongSide" 439, .ref 207⟩, ⟨PyData.keyHash P "WrongNumber", .str "WrongNumber" 455, .ref 219⟩, ⟨PyData.keyHash P "AlreadyTaken", .str "AlreadyTaken" 471, .ref 231⟩, ⟨PyData.keyHash P "UnknownTransfer", .str "UnknownTransfer" 487, .ref 243⟩, ⟨PyData.keyHash P "LimitReached", .str "LimitReached" 503, .ref 255⟩, ⟨PyData.keyHash P "Stopped", .str "Stopped" 519, .ref 267⟩, ⟨PyData.keyHash P "UnknownParent", .str "UnknownParent" 535, .ref 279⟩, ⟨PyData.keyHash P "UnknownBlock", .str "UnknownBlock" 551, .ref 291⟩, ⟨PyData.keyHash P "DuplicateBlock", .str "DuplicateBlock" 567, .ref 303⟩, ⟨PyData.keyHash P "ConflictsWithFinal", .str "ConflictsWithFinal" 583, .ref 315⟩, ⟨PyData.keyHash P "UnknownSeal", .str "UnknownSeal" 599, .ref 327⟩, ⟨PyData.keyHash P "TooEarly", .str "TooEarly" 615, .ref 339⟩, ⟨PyData.keyHash P "StillOnDuty", .str "StillOnDuty" 631, .ref 351⟩, ⟨PyData.keyHash P "NothingBonded", .str "NothingBonded" 647, .ref 363⟩, ⟨PyData.keyHash P "SIDES", .str "SIDES" 652, .ref 366⟩, ⟨PyData.keyHash P "ACCOUNT_LENGTH", .str "ACCOUNT_LENGTH" 654, .int (20) 653⟩, ⟨PyData.keyHash P "FIRST_CODE", .str "FIRST_CODE" 656, .int (32) 655⟩, ⟨PyData.keyHash P "LAST_CODE", .str "LAST_CODE" 658, .int (126) 657⟩, ⟨PyData.keyHash P "BARRED_CODE", .str "BARRED_CODE" 660, .int (37) 659⟩, ⟨PyData.keyHash P "is_integer", .str "is_integer" 667, .ref 373⟩, ⟨PyData.keyHash P "is_at_least", .str "is_at_least" 675, .ref 380⟩, ⟨PyData.keyHash P "is_text", .str "is_text" 684, .ref 387⟩, ⟨PyData.keyHash P "is_short_text", .str "is_short_text" 692, .ref 394⟩, ⟨PyData.keyHash P "is_account", .str "is_account" 699, .ref 401⟩, ⟨PyData.keyHash P "is_side", .str "is_side" 706, .ref 408⟩, ⟨PyData.keyHash P "is_set", .str "is_set" 717, .ref 415⟩, ⟨PyData.keyHash P "is_pair", .str "is_pair" 724, .ref 422⟩, ⟨PyData.keyHash P "total", .str "total" 730, .ref 427⟩, ⟨PyData.keyHash P "threshold", .str "threshold" 737, .ref 434⟩, ⟨PyData.keyHash P "minority", .str "minority" 744, .ref 441⟩, ⟨PyData.keyHash P "TOKEN_LENGTH", .str "TOKEN_LENGTH" 748, .int (12) 747⟩, ⟨PyData.keyHash P "MOST_IN_BUNDLE", .str "MOST_IN_BUNDLE" 750, .int (8) 749⟩, ⟨PyData.keyHash P "other_side", .str "other_side" 757, .ref 448⟩, ⟨PyData.keyHash P "Config", .str "Config" 895, .ref 548⟩, ⟨PyData.keyHash P "check_list", .str "check_list" 903, .ref 559⟩, ⟨PyData.keyHash P "check_least", .str "check_least" 912, .ref 566⟩, ⟨PyData.keyHash P "check_token_row", .str "check_token_row" 924, .ref 573⟩, ⟨PyData.keyHash P "check_balance_row", .str "check_balance_row" 935, .ref 580⟩, ⟨PyData.keyHash P "ABOUT_ONE", .str "ABOUT_ONE" 941, .ref 581⟩, ⟨PyData.keyHash P "ABOUT_ALL", .str "ABOUT_ALL" 944, .ref 582⟩, ⟨PyData.keyHash P "MOST_TRANSFERS", .str "MOST_TRANSFERS" 946, .int (8) 945⟩, ⟨PyData.keyHash P "is_transfer", .str "is_transfer" 959, .ref 589⟩, ⟨PyData.keyHash P "is_bundle", .str "is_bundle" 965, .ref 594⟩, ⟨PyData.keyHash P "is_letter", .str "is_letter" 976, .ref 601⟩, ⟨PyData.keyHash P "key", .str "key" 983, .ref 608⟩, ⟨PyData.keyHash P "FROM_OTHER_SIDE", .str "FROM_OTHER_SIDE" 989, .ref 609⟩, ⟨PyData.keyHash P "OF_THIS_SIDE", .str "OF_THIS_SIDE" 993, .ref 610⟩, ⟨PyData.keyHash P "NOT_WHEN_STOPPED", .str "NOT_WHEN_STOPPED" 997, .ref 611⟩, ⟨PyData.keyHash P "check_amount", .str "check_amount" 1006, .ref 618⟩, ⟨PyData.keyHash P "do_pay", .str "do_pay" 1021, .ref 625⟩, ⟨PyData.keyHash P "do_send", .str "do_send" 1043, .ref 632⟩, ⟨PyData.keyHash P "do_bond", .str "do_bond" 1057, .ref 639⟩, ⟨PyData.keyHash P "do_unbond", .str "do_unbond" 1063, .ref 644⟩, ⟨PyData.keyHash P "do_accuse", .str "do_accuse" 1069, .ref 649⟩, ⟨PyData.keyHash P "sets_in_use", .str "sets_in_use" 1075, .ref 654⟩, ⟨PyData.keyHash P "check_backed", .str "check_backed" 1086, .ref 661⟩, ⟨PyData.keyHash P "check_current", .str "check_current" 1097, .ref 668⟩, ⟨PyData.keyHash P "check_vault", .str "check_vault" 1107, .ref 675⟩, ⟨PyData.keyHash P "give", .str "give" 1118, .ref 682⟩, ⟨PyData.keyHash P "is_beyond_limit", .str "is_beyond_limit" 1130, .ref 689⟩, ⟨PyData.keyHash P "deliver", .str "deliver" 1146, .ref 696⟩, ⟨PyData.keyHash P "refuse", .str "refuse" 1155, .ref 703⟩, ⟨PyData.keyHash P "accept", .str "accept" 1170, .ref 710⟩, ⟨PyData.keyHash P "take_deliver", .str "take_deliver" 1184, .ref 717⟩, ⟨PyData.keyHash P "take_bundle", .str "take_bundle" 1203, .ref 724⟩, ⟨PyData.keyHash P "take_cancel", .str "take_cancel" 1218, .ref 731⟩, ⟨PyData.keyHash P "take_return", .str "take_return" 1236, .ref 738⟩, ⟨PyData.keyHash P "take_rotate", .str "take_rotate" 1251, .ref 745⟩, ⟨PyData.keyHash P "take_stop", .str "take_stop" 1265, .ref 752⟩, ⟨PyData.keyHash P "take_resume", .str "take_resume" 1279, .ref 759⟩, ⟨PyData.keyHash P "LETTERS", .str "LETTERS" 1294, .ref 760⟩, ⟨PyData.keyHash P "do_take", .str "do_take" 1308, .ref 767⟩, ⟨PyData.keyHash P "do_claim", .str "do_claim" 1322, .ref 774⟩, ⟨PyData.keyHash P "ORDERS", .str "ORDERS" 1337, .ref 775⟩, ⟨PyData.keyHash P "PARTS", .str "PARTS" 1359, .ref 776⟩, ⟨PyData.keyHash P "word_of", .str "word_of" 1367, .ref 783⟩, ⟨PyData.keyHash P "named_seals", .str "named_seals" 1374, .ref 790⟩, ⟨PyData.keyHash P "outcome", .str "outcome" 1387, .ref 797⟩, ⟨PyData.keyHash P "next_height", .str "next_height" 1395, .ref 804⟩, ⟨PyData.keyHash P "after_block", .str "after_block" 1410, .ref 811⟩, ⟨PyData.keyHash P "Sheet", .str "Sheet" 1572, .ref 919⟩, ⟨PyData.keyHash P "copied", .str "copied" 1578, .ref 928⟩, ⟨PyData.keyHash P "held", .str "held" 1587, .ref 935⟩, ⟨PyData.keyHash P "put", .str "put" 1598, .ref 942⟩, ⟨PyData.keyHash P "draw", .str "draw" 1608, .ref 949⟩, ⟨PyData.keyHash P "DELIVERED", .str "DELIVERED" 1612, .str "delivered" 1611⟩, ⟨PyData.keyHash P "REFUSED", .str "REFUSED" 1614, .str "refused" 1613⟩, ⟨PyData.keyHash P "WAITING", .str "WAITING" 1616, .str "waiting" 1615⟩, ⟨PyData.keyHash P "State", .str "State" 1898, .ref 1176⟩, ⟨PyData.keyHash P "opening_state", .str "opening_state" 1906, .ref 1187⟩, ⟨PyData.keyHash P "FIRST", .str "FIRST" 1910, .int (0) 1909⟩, ⟨PyData.keyHash P "Chain", .str "Chain" 2067, .ref 1309⟩, ⟨PyData.keyHash P "Notary", .str "Notary" 2138, .ref 1363⟩, ⟨PyData.keyHash P "_law_pot", .str "_law_pot" 2149, .ref 1374⟩, ⟨PyData.keyHash P "_law_next", .str "_law_next" 2160, .ref 1381⟩, ⟨PyData.keyHash P "_law_set", .str "_law_set" 2166, .ref 1386⟩, ⟨PyData.keyHash P "_law_config", .str "_law_config" 2179, .ref 1393⟩, ⟨PyData.keyHash P "_law_made", .str "_law_made" 2186, .ref 1400⟩, ⟨PyData.keyHash P "_law_line", .str "_law_line" 2196, .ref 1407⟩, ⟨PyData.keyHash P "_law_deep", .str "_law_deep" 2208, .ref 1414⟩, ⟨PyData.keyHash P "law", .str "law" 2214, .ref 1419⟩].toArray 118, [].toArray⟩),
  (2, ⟨.none, none, .dict [].toArray 0, [].toArray⟩),
  (113, ⟨.type "type", none, .cls ⟨"Blocks", [.type "object"], [.ref 113, .type "object"], 112, "Blocks", true, [], [], false, none, false⟩, [none, none, (some (.str "Blocks" 196)), (some (.str "Blocks" 204)), (some (.builtin "object.__new__")), (some (.bool true))].toArray⟩),
  (112, ⟨.type "dict", none, .dict [⟨PyData.keyHash P "__module__", .str "__module__" 203, .str "vaultbridge.blocks" 194⟩, ⟨PyData.keyHash P "__firstlineno__", .str "__firstlineno__" 207, .int (5) 206⟩, ⟨PyData.keyHash P "__init__", .str "__init__" 216, .ref 35⟩, ⟨PyData.keyHash P "has", .str "has" 224, .ref 42⟩, ⟨PyData.keyHash P "numbers", .str "numbers" 231, .ref 49⟩, ⟨PyData.keyHash P "parent", .str "parent" 239, .ref 56⟩, ⟨PyData.keyHash P "height", .str "height" 247, .ref 63⟩, ⟨PyData.keyHash P "line", .str "line" 256, .ref 70⟩, ⟨PyData.keyHash P "place", .str "place" 266, .ref 77⟩, ⟨PyData.keyHash P "final", .str "final" 273, .ref 84⟩, ⟨PyData.keyHash P "is_live", .str "is_live" 281, .ref 91⟩, ⟨PyData.keyHash P "live_tips", .str "live_tips" 287, .ref 96⟩, ⟨PyData.keyHash P "best", .str "best" 294, .ref 103⟩, ⟨PyData.keyHash P "_below", .str "_below" 303, .ref 110⟩, ⟨PyData.keyHash P "__static_attributes__", .str "__static_attributes__" 309, .ref 111⟩, ⟨PyData.keyHash P "__dict__", .str "__dict__" 311, .ref 114⟩, ⟨PyData.keyHash P "__weakref__", .str "__weakref__" 313, .ref 115⟩, ⟨PyData.keyHash P "__doc__", .str "__doc__" 314, .none⟩].toArray 4, [].toArray⟩),
  (134, ⟨.type "type", none, .cls ⟨"BridgeError", [.type "ValueError"], [.ref 134, .type "ValueError", .type "Exception", .type "BaseException", .type "object"], 133, "BridgeError", true, [], [.ref 147, .ref 159, .ref 171, .ref 183, .ref 195, .ref 207, .ref 219, .ref 231, .ref 243, .ref 255, .ref 267, .ref 279, .ref 291, .ref 303, .ref 315, .ref 327, .ref 339, .ref 351, .ref 363], false, none, false⟩, [(some (.ref 118)), none, (some (.str "BridgeError" 319)), (some (.str "BridgeError" 327)), (some (.builtin "ValueError.__new__")), (some (.bool true))].toArray⟩),
  (133, ⟨.type "dict", none, .dict [⟨PyData.keyHash P "__module__", .str "__module__" 326, .str "vaultbridge.errors" 317⟩, ⟨PyData.keyHash P "__firstlineno__", .str "__firstlineno__" 330, .int (60) 329⟩, ⟨PyData.keyHash P "word", .str "word" 337, .ref 131⟩, ⟨PyData.keyHash P "__static_attributes__", .str "__static_attributes__" 338, .ref 132⟩, ⟨PyData.keyHash P "__weakref__", .str "__weakref__" 340, .ref 135⟩, ⟨PyData.keyHash P "__doc__", .str "__doc__" 341, .none⟩].toArray 3, [].toArray⟩),
  (279, ⟨.type "type", none, .cls ⟨"UnknownParent", [.ref 134], [.ref 279, .ref 134, .type "ValueError", .type "Exception", .type "BaseException", .type "object"], 278, "UnknownParent", true, [], [], false, none, false⟩, [(some (.ref 270)), none, (some (.str "UnknownParent" 520)), (some (.str "UnknownParent" 528)), (some (.builtin "ValueError.__new__")), (some (.bool true))].toArray⟩),
  (278, ⟨.type "dict", none, .dict [⟨PyData.keyHash P "__module__", .str "__module__" 527, .str "vaultbridge.errors" 317⟩, ⟨PyData.keyHash P "__firstlineno__", .str "__firstlineno__" 531, .int (86) 530⟩, ⟨PyData.keyHash P "__static_attributes__", .str "__static_attributes__" 532, .ref 277⟩, ⟨PyData.keyHash P "__doc__", .str "__doc__" 533, .none⟩].toArray 2, [].toArray⟩),
  (303, ⟨.type "type", none, .cls ⟨"DuplicateBlock", [.ref 134], [.ref 303, .ref 134, .type "ValueError", .type "Exception", .type "BaseException", .type "object"], 302, "DuplicateBlock", true, [], [], false, none, false⟩, [(some (.ref 294)), none, (some (.str "DuplicateBlock" 552)), (some (.str "DuplicateBlock" 560)), (some (.builtin "ValueError.__new__")), (some (.bool true))].toArray⟩),
  (302, ⟨.type "dict", none, .dict [⟨PyData.keyHash P "__module__", .str "__module__" 559, .str "vaultbridge.errors" 317⟩, ⟨PyData.keyHash P "__firstlineno__", .str "__firstlineno__" 563, .int (90) 562⟩, ⟨PyData.keyHash P "__static_attributes__", .str "__static_attributes__" 564, .ref 301⟩, ⟨PyData.keyHash P "__doc__", .str "__doc__" 565, .none⟩].toArray 2, [].toArray⟩),
  (315, ⟨.type "type", none, .cls ⟨"ConflictsWithFinal", [.ref 134], [.ref 315, .ref 134, .type "ValueError", .type "Exception", .type "BaseException", .type "object"], 314, "ConflictsWithFinal", true, [], [], false, none, false⟩, [(some (.ref 306)), none, (some (.str "ConflictsWithFinal" 568)), (some (.str "ConflictsWithFinal" 576)), (some (.builtin "ValueError.__new__")), (some (.bool true))].toArray⟩),
  (314, ⟨.type "dict", none, .dict [⟨PyData.keyHash P "__module__", .str "__module__" 575, .str "vaultbridge.errors" 317⟩, ⟨PyData.keyHash P "__firstlineno__", .str "__firstlineno__" 579, .int (92) 578⟩, ⟨PyData.keyHash P "__static_attributes__", .str "__static_attributes__" 580, .ref 313⟩, ⟨PyData.keyHash P "__doc__", .str "__doc__" 581, .none⟩].toArray 2, [].toArray⟩),
  (548, ⟨.type "type", none, .cls ⟨"Config", [.type "object"], [.ref 548, .type "object"], 547, "Config", true, [], [], false, none, false⟩, [none, none, (some (.str "Config" 758)), (some (.str "Config" 766)), (some (.builtin "object.__new__")), (some (.bool true))].toArray⟩),
  (547, ⟨.type "dict", none, .dict [⟨PyData.keyHash P "__module__", .str "__module__" 765, .str "vaultbridge.config" 745⟩, ⟨PyData.keyHash P "__firstlineno__", .str "__firstlineno__" 769, .int (149) 768⟩, ⟨PyData.keyHash P "__init__", .str "__init__" 792, .ref 463⟩, ⟨PyData.keyHash P "token_names", .str "token_names" 799, .ref 470⟩, ⟨PyData.keyHash P "check_token", .str "check_token" 807, .ref 477⟩, ⟨PyData.keyHash P "home", .str "home" 815, .ref 484⟩, ⟨PyData.keyHash P "scale", .str "scale" 823, .ref 491⟩, ⟨PyData.keyHash P "limit", .str "limit" 831, .ref 498⟩, ⟨PyData.keyHash P "large", .str "large" 839, .ref 505⟩, ⟨PyData.keyHash P "opening", .str "opening" 845, .ref 510⟩, ⟨PyData.keyHash P "guards", .str "guards" 852, .ref 517⟩, ⟨PyData.keyHash P "depth", .str "depth" 859, .ref 524⟩, ⟨PyData.keyHash P "window", .str "window" 866, .ref 531⟩, ⟨PyData.keyHash P "delay", .str "delay" 873, .ref 538⟩, ⟨PyData.keyHash P "bundle", .str "bundle" 880, .ref 545⟩, ⟨PyData.keyHash P "__static_attributes__", .str "__static_attributes__" 888, .ref 546⟩, ⟨PyData.keyHash P "__dict__", .str "__dict__" 890, .ref 549⟩, ⟨PyData.keyHash P "__weakref__", .str "__weakref__" 892, .ref 550⟩, ⟨PyData.keyHash P "__doc__", .str "__doc__" 893, .none⟩].toArray 4, [].toArray⟩),
  (919, ⟨.type "type", none, .cls ⟨"Sheet", [.type "object"], [.ref 919, .type "object"], 918, "Sheet", true, [], [], false, none, false⟩, [none, none, (some (.str "Sheet" 1413)), (some (.str "Sheet" 1421)), (some (.builtin "object.__new__")), (some (.bool true))].toArray⟩),
  (918, ⟨.type "dict", none, .dict [⟨PyData.keyHash P "__module__", .str "__module__" 1420, .str "vaultbridge.sheet" 1411⟩, ⟨PyData.keyHash P "__firstlineno__", .str "__firstlineno__" 1424, .int (501) 1423⟩, ⟨PyData.keyHash P "__init__", .str "__init__" 1436, .ref 825⟩, ⟨PyData.keyHash P "copy", .str "copy" 1444, .ref 832⟩, ⟨PyData.keyHash P "balance", .str "balance" 1453, .ref 839⟩, ⟨PyData.keyHash P "vault", .str "vault" 1461, .ref 846⟩, ⟨PyData.keyHash P "bonded", .str "bonded" 1470, .ref 853⟩, ⟨PyData.keyHash P "bonders", .str "bonders" 1478, .ref 860⟩, ⟨PyData.keyHash P "circulating", .str "circulating" 1486, .ref 867⟩, ⟨PyData.keyHash P "move", .str "move" 1497, .ref 874⟩, ⟨PyData.keyHash P "lock", .str "lock" 1508, .ref 881⟩, ⟨PyData.keyHash P "release", .str "release" 1519, .ref 888⟩, ⟨PyData.keyHash P "mint", .str "mint" 1529, .ref 895⟩, ⟨PyData.keyHash P "burn", .str "burn" 1539, .ref 902⟩, ⟨PyData.keyHash P "bond", .str "bond" 1549, .ref 909⟩, ⟨PyData.keyHash P "unbond", .str "unbond" 1559, .ref 916⟩, ⟨PyData.keyHash P "__static_attributes__", .str "__static_attributes__" 1565, .ref 917⟩, ⟨PyData.keyHash P "__dict__", .str "__dict__" 1567, .ref 920⟩, ⟨PyData.keyHash P "__weakref__", .str "__weakref__" 1569, .ref 921⟩, ⟨PyData.keyHash P "__doc__", .str "__doc__" 1570, .none⟩].toArray 4, [].toArray⟩),
  (1176, ⟨.type "type", none, .cls ⟨"State", [.type "object"], [.ref 1176, .type "object"], 1175, "State", true, [], [], false, none, false⟩, [none, none, (some (.str "State" 1617)), (some (.str "State" 1625)), (some (.builtin "object.__new__")), (some (.bool true))].toArray⟩),
  (1175, ⟨.type "dict", none, .dict [⟨PyData.keyHash P "__module__", .str "__module__" 1624, .str "vaultbridge.state" 1609⟩, ⟨PyData.keyHash P "__firstlineno__", .str "__firstlineno__" 1628, .int (578) 1627⟩, ⟨PyData.keyHash P "__init__", .str "__init__" 1638, .ref 963⟩, ⟨PyData.keyHash P "copy", .str "copy" 1646, .ref 970⟩, ⟨PyData.keyHash P "side", .str "side" 1653, .ref 977⟩, ⟨PyData.keyHash P "height", .str "height" 1660, .ref 984⟩, ⟨PyData.keyHash P "epoch", .str "epoch" 1667, .ref 991⟩, ⟨PyData.keyHash P "is_stopped", .str "is_stopped" 1674, .ref 998⟩, ⟨PyData.keyHash P "stops", .str "stops" 1681, .ref 1005⟩, ⟨PyData.keyHash P "balance", .str "balance" 1690, .ref 1012⟩, ⟨PyData.keyHash P "bonded", .str "bonded" 1699, .ref 1019⟩, ⟨PyData.keyHash P "vault", .str "vault" 1707, .ref 1026⟩, ⟨PyData.keyHash P "circulating", .str "circulating" 1715, .ref 1033⟩, ⟨PyData.keyHash P "guards", .str "guards" 1723, .ref 1040⟩, ⟨PyData.keyHash P "transfers", .str "transfers" 1730, .ref 1047⟩, ⟨PyData.keyHash P "taken", .str "taken" 1738, .ref 1054⟩, ⟨PyData.keyHash P "bonded_guards", .str "bonded_guards" 1746, .ref 1061⟩, ⟨PyData.keyHash P "waiting", .str "waiting" 1753, .ref 1068⟩, ⟨PyData.keyHash P "is_returned", .str "is_returned" 1761, .ref 1075⟩, ⟨PyData.keyHash P "sheet", .str "sheet" 1768, .ref 1082⟩, ⟨PyData.keyHash P "sent", .str "sent" 1776, .ref 1089⟩, ⟨PyData.keyHash P "held", .str "held" 1784, .ref 1096⟩, ⟨PyData.keyHash P "claim_height", .str "claim_height" 1792, .ref 1103⟩, ⟨PyData.keyHash P "units_delivered", .str "units_delivered" 1805, .ref 1110⟩, ⟨PyData.keyHash P "rise", .str "rise" 1812, .ref 1117⟩, ⟨PyData.keyHash P "add_transfer", .str "add_transfer" 1820, .ref 1124⟩, ⟨PyData.keyHash P "hold", .str "hold" 1830, .ref 1131⟩, ⟨PyData.keyHash P "refuse", .str "refuse" 1838, .ref 1138⟩, ⟨PyData.keyHash P "deliver", .str "deliver" 1848, .ref 1145⟩, ⟨PyData.keyHash P "give_back", .str "give_back" 1856, .ref 1152⟩, ⟨PyData.keyHash P "rotate", .str "rotate" 1864, .ref 1159⟩, ⟨PyData.keyHash P "stop", .str "stop" 1871, .ref 1166⟩, ⟨PyData.keyHash P "resume", .str "resume" 1878, .ref 1173⟩, ⟨PyData.keyHash P "__static_attributes__", .str "__static_attributes__" 1891, .ref 1174⟩, ⟨PyData.keyHash P "__dict__", .str "__dict__" 1893, .ref 1177⟩, ⟨PyData.keyHash P "__weakref__", .str "__weakref__" 1895, .ref 1178⟩, ⟨PyData.keyHash P "__doc__", .str "__doc__" 1896, .none⟩].toArray 4, [].toArray⟩),
  (1309, ⟨.type "type", none, .cls ⟨"Chain", [.type "object"], [.ref 1309, .type "object"], 1308, "Chain", true, [], [], false, none, false⟩, [none, none, (some (.str "Chain" 1911)), (some (.str "Chain" 1919)), (some (.builtin "object.__new__")), (some (.bool true))].toArray⟩),
  (1308, ⟨.type "dict", none, .dict [⟨PyData.keyHash P "__module__", .str "__module__" 1918, .str "vaultbridge.chain" 1907⟩, ⟨PyData.keyHash P "__firstlineno__", .str "__firstlineno__" 1922, .int (711) 1921⟩, ⟨PyData.keyHash P "__init__", .str "__init__" 1932, .ref 1201⟩, ⟨PyData.keyHash P "add", .str "add" 1946, .ref 1208⟩, ⟨PyData.keyHash P "depth", .str "depth" 1953, .ref 1215⟩, ⟨PyData.keyHash P "token_names", .str "token_names" 1960, .ref 1222⟩, ⟨PyData.keyHash P "numbers", .str "numbers" 1967, .ref 1229⟩, ⟨PyData.keyHash P "parent", .str "parent" 1975, .ref 1236⟩, ⟨PyData.keyHash P "height", .str "height" 1983, .ref 1243⟩, ⟨PyData.keyHash P "orders", .str "orders" 1991, .ref 1250⟩, ⟨PyData.keyHash P "line", .str "line" 1999, .ref 1257⟩, ⟨PyData.keyHash P "final", .str "final" 2006, .ref 1264⟩, ⟨PyData.keyHash P "tips", .str "tips" 2013, .ref 1271⟩, ⟨PyData.keyHash P "best", .str "best" 2020, .ref 1278⟩, ⟨PyData.keyHash P "state", .str "state" 2028, .ref 1285⟩, ⟨PyData.keyHash P "receipts", .str "receipts" 2036, .ref 1292⟩, ⟨PyData.keyHash P "events", .str "events" 2044, .ref 1299⟩, ⟨PyData.keyHash P "_check_block", .str "_check_block" 2052, .ref 1306⟩, ⟨PyData.keyHash P "__static_attributes__", .str "__static_attributes__" 2060, .ref 1307⟩, ⟨PyData.keyHash P "__dict__", .str "__dict__" 2062, .ref 1310⟩, ⟨PyData.keyHash P "__weakref__", .str "__weakref__" 2064, .ref 1311⟩, ⟨PyData.keyHash P "__doc__", .str "__doc__" 2065, .none⟩].toArray 4, [].toArray⟩),
  (1363, ⟨.type "type", none, .cls ⟨"Notary", [.type "object"], [.ref 1363, .type "object"], 1362, "Notary", true, [], [], false, none, false⟩, [none, none, (some (.str "Notary" 2070)), (some (.str "Notary" 2078)), (some (.builtin "object.__new__")), (some (.bool true))].toArray⟩),
  (1362, ⟨.type "dict", none, .dict [⟨PyData.keyHash P "__module__", .str "__module__" 2077, .str "vaultbridge.notary" 2068⟩, ⟨PyData.keyHash P "__firstlineno__", .str "__firstlineno__" 2081, .int (788) 2080⟩, ⟨PyData.keyHash P "__init__", .str "__init__" 2088, .ref 1327⟩, ⟨PyData.keyHash P "seal", .str "seal" 2098, .ref 1334⟩, ⟨PyData.keyHash P "count", .str "count" 2105, .ref 1341⟩, ⟨PyData.keyHash P "check_seals", .str "check_seals" 2114, .ref 1348⟩, ⟨PyData.keyHash P "shown", .str "shown" 2122, .ref 1355⟩, ⟨PyData.keyHash P "weight", .str "weight" 2128, .ref 1360⟩, ⟨PyData.keyHash P "__static_attributes__", .str "__static_attributes__" 2131, .ref 1361⟩, ⟨PyData.keyHash P "__dict__", .str "__dict__" 2133, .ref 1364⟩, ⟨PyData.keyHash P "__weakref__", .str "__weakref__" 2135, .ref 1365⟩, ⟨PyData.keyHash P "__doc__", .str "__doc__" 2136, .none⟩].toArray 4, [].toArray⟩),
  (35, ⟨.type "function", none, .func ⟨"__init__", "Blocks.__init__", defArgs s_Blocks_init, .stmts (defBody s_Blocks_init), defScope s_Blocks_init, 3, [], .none, .none, .none, .str "vaultbridge.blocks" 194, none, .ref 34, .none, 0⟩, [].toArray⟩),
  (34, ⟨.type "code", none, .fields [.str "__init__" 208, .str "Blocks.__init__" 209, .str "/claim/cut.py" 210, .int (7) 0, .int (3) 0, .int (0) 0, .int (0) 0, .int (3) 0, .ref 29, .bool true, .int (181) 0, .ref 30, .none, .ref 31, .ref 32, .ref 33, .int (214) 0, .int (7) 0, .str "/claim/cut.py" 215].toArray, [].toArray⟩),
  (42, ⟨.type "function", none, .func ⟨"has", "Blocks.has", defArgs s_Blocks_has, .stmts (defBody s_Blocks_has), defScope s_Blocks_has, 3, [], .none, .none, .none, .str "vaultbridge.blocks" 194, none, .ref 41, .none, 0⟩, [].toArray⟩),
  (41, ⟨.type "code", none, .fields [.str "has" 217, .str "Blocks.has" 218, .str "/claim/cut.py" 219, .int (14) 0, .int (2) 0, .int (0) 0, .int (0) 0, .int (3) 0, .ref 36, .bool true, .int (181) 0, .ref 37, .none, .ref 38, .ref 39, .ref 40, .int (222) 0, .int (14) 0, .str "/claim/cut.py" 223].toArray, [].toArray⟩),
  (49, ⟨.type "function", none, .func ⟨"numbers", "Blocks.numbers", defArgs s_Blocks_numbers, .stmts (defBody s_Blocks_numbers), defScope s_Blocks_numbers, 3, [], .none, .none, .none, .str "vaultbridge.blocks" 194, none, .ref 48, .none, 0⟩, [].toArray⟩),
  (48, ⟨.type "code", none, .fields [.str "numbers" 225, .str "Blocks.numbers" 226, .str "/claim/cut.py" 227, .int (17) 0, .int (1) 0, .int (0) 0, .int (0) 0, .int (3) 0, .ref 43, .bool true, .int (181) 0, .ref 44, .none, .ref 45, .ref 46, .ref 47, .int (229) 0, .int (17) 0, .str "/claim/cut.py" 230].toArray, [].toArray⟩),
  (56, ⟨.type "function", none, .func ⟨"parent", "Blocks.parent", defArgs s_Blocks_parent, .stmts (defBody s_Blocks_parent), defScope s_Blocks_parent, 3, [], .none, .none, .none, .str "vaultbridge.blocks" 194, none, .ref 55, .none, 0⟩, [].toArray⟩),
  (55, ⟨.type "code", none, .fields [.str "parent" 232, .str "Blocks.parent" 233, .str "/claim/cut.py" 234, .int (20) 0, .int (2) 0, .int (0) 0, .int (0) 0, .int (3) 0, .ref 50, .bool true, .int (181) 0, .ref 51, .none, .ref 52, .ref 53, .ref 54, .int (237) 0, .int (20) 0, .str "/claim/cut.py" 238].toArray, [].toArray⟩),
  (77, ⟨.type "function", none, .func ⟨"place", "Blocks.place", defArgs s_Blocks_place, .stmts (defBody s_Blocks_place), defScope s_Blocks_place, 3, [], .none, .none, .none, .str "vaultbridge.blocks" 194, none, .ref 76, .none, 0⟩, [].toArray⟩),
  (76, ⟨.type "code", none, .fields [.str "place" 257, .str "Blocks.place" 258, .str "/claim/cut.py" 259, .int (34) 0, .int (3) 0, .int (0) 0, .int (0) 0, .int (3) 0, .ref 71, .bool true, .int (181) 0, .ref 72, .none, .ref 73, .ref 74, .ref 75, .int (264) 0, .int (34) 0, .str "/claim/cut.py" 265].toArray, [].toArray⟩),
  (84, ⟨.type "function", none, .func ⟨"final", "Blocks.final", defArgs s_Blocks_final, .stmts (defBody s_Blocks_final), defScope s_Blocks_final, 3, [], .none, .none, .none, .str "vaultbridge.blocks" 194, none, .ref 83, .none, 0⟩, [].toArray⟩),
  (83, ⟨.type "code", none, .fields [.str "final" 267, .str "Blocks.final" 268, .str "/claim/cut.py" 269, .int (43) 0, .int (1) 0, .int (0) 0, .int (0) 0, .int (3) 0, .ref 78, .bool true, .int (181) 0, .ref 79, .none, .ref 80, .ref 81, .ref 82, .int (271) 0, .int (43) 0, .str "/claim/cut.py" 272].toArray, [].toArray⟩),
  (91, ⟨.type "function", none, .func ⟨"is_live", "Blocks.is_live", defArgs s_Blocks_is_live, .stmts (defBody s_Blocks_is_live), defScope s_Blocks_is_live, 3, [], .none, .none, .none, .str "vaultbridge.blocks" 194, none, .ref 90, .none, 0⟩, [].toArray⟩),
  (90, ⟨.type "code", none, .fields [.str "is_live" 274, .str "Blocks.is_live" 275, .str "/claim/cut.py" 276, .int (46) 0, .int (2) 0, .int (0) 0, .int (0) 0, .int (3) 0, .ref 85, .bool true, .int (181) 0, .ref 86, .none, .ref 87, .ref 88, .ref 89, .int (279) 0, .int (46) 0, .str "/claim/cut.py" 280].toArray, [].toArray⟩),
  (96, ⟨.type "function", none, .func ⟨"live_tips", "Blocks.live_tips", defArgs s_Blocks_live_tips, .stmts (defBody s_Blocks_live_tips), defScope s_Blocks_live_tips, 3, [], .none, .none, .none, .str "vaultbridge.blocks" 194, none, .ref 95, .none, 0⟩, [].toArray⟩),
  (95, ⟨.type "code", none, .fields [.str "live_tips" 282, .str "Blocks.live_tips" 283, .str "/claim/cut.py" 284, .int (49) 0, .int (1) 0, .int (0) 0, .int (0) 0, .int (3) 0, .ref 92, .bool true, .int (181) 0, .ref 93, .none, .none, .none, .ref 94, .int (285) 0, .int (49) 0, .str "/claim/cut.py" 286].toArray, [].toArray⟩),
  (110, ⟨.type "function", none, .func ⟨"_below", "Blocks._below", defArgs s_Blocks_below, .stmts (defBody s_Blocks_below), defScope s_Blocks_below, 3, [], .none, .none, .none, .str "vaultbridge.blocks" 194, none, .ref 109, .none, 0⟩, [].toArray⟩),
  (109, ⟨.type "code", none, .fields [.str "_below" 295, .str "Blocks._below" 296, .str "/claim/cut.py" 297, .int (55) 0, .int (3) 0, .int (0) 0, .int (0) 0, .int (3) 0, .ref 104, .bool true, .int (181) 0, .ref 105, .none, .ref 106, .ref 107, .ref 108, .int (301) 0, .int (55) 0, .str "/claim/cut.py" 302].toArray, [].toArray⟩)]
def KK1 (P : Params) : PySem.W.Frag := [(373, ⟨.type "function", none, .func ⟨"is_integer", "is_integer", defArgs s_is_integer, .stmts (defBody s_is_integer), defScope s_is_integer, 3, [], .none, .none, .none, .str "vaultbridge.kinds" 648, none, .ref 372, .none, 0⟩, [].toArray⟩),
  (372, ⟨.type "code", none, .fields [.str "is_integer" 661, .str "is_integer" 662, .str "/claim/cut.py" 663, .int (108) 0, .int (1) 0, .int (0) 0, .int (0) 0, .int (3) 0, .ref 367, .bool true, .int (181) 0, .ref 368, .none, .ref 369, .ref 370, .ref 371, .int (665) 0, .int (108) 0, .str "/claim/cut.py" 666].toArray, [].toArray⟩),
  (380, ⟨.type "function", none, .func ⟨"is_at_least", "is_at_least", defArgs s_is_at_least, .stmts (defBody s_is_at_least), defScope s_is_at_least, 3, [], .none, .none, .none, .str "vaultbridge.kinds" 648, none, .ref 379, .none, 0⟩, [].toArray⟩),
  (379, ⟨.type "code", none, .fields [.str "is_at_least" 668, .str "is_at_least" 669, .str "/claim/cut.py" 670, .int (110) 0, .int (2) 0, .int (0) 0, .int (0) 0, .int (3) 0, .ref 374, .bool true, .int (181) 0, .ref 375, .none, .ref 376, .ref 377, .ref 378, .int (673) 0, .int (110) 0, .str "/claim/cut.py" 674].toArray, [].toArray⟩),
  (387, ⟨.type "function", none, .func ⟨"is_text", "is_text", defArgs s_is_text, .stmts (defBody s_is_text), defScope s_is_text, 3, [], .none, .none, .none, .str "vaultbridge.kinds" 648, none, .ref 386, .none, 0⟩, [].toArray⟩),
  (386, ⟨.type "code", none, .fields [.str "is_text" 676, .str "is_text" 677, .str "/claim/cut.py" 678, .int (112) 0, .int (1) 0, .int (0) 0, .int (0) 0, .int (3) 0, .ref 381, .bool true, .int (181) 0, .ref 382, .none, .ref 383, .ref 384, .ref 385, .int (682) 0, .int (112) 0, .str "/claim/cut.py" 683].toArray, [].toArray⟩),
  (394, ⟨.type "function", none, .func ⟨"is_short_text", "is_short_text", defArgs s_is_short_text, .stmts (defBody s_is_short_text), defScope s_is_short_text, 3, [], .none, .none, .none, .str "vaultbridge.kinds" 648, none, .ref 393, .none, 0⟩, [].toArray⟩),
  (393, ⟨.type "code", none, .fields [.str "is_short_text" 685, .str "is_short_text" 686, .str "/claim/cut.py" 687, .int (120) 0, .int (2) 0, .int (0) 0, .int (0) 0, .int (3) 0, .ref 388, .bool true, .int (181) 0, .ref 389, .none, .ref 390, .ref 391, .ref 392, .int (690) 0, .int (120) 0, .str "/claim/cut.py" 691].toArray, [].toArray⟩),
  (401, ⟨.type "function", none, .func ⟨"is_account", "is_account", defArgs s_is_account, .stmts (defBody s_is_account), defScope s_is_account, 3, [], .none, .none, .none, .str "vaultbridge.kinds" 648, none, .ref 400, .none, 0⟩, [].toArray⟩),
  (400, ⟨.type "code", none, .fields [.str "is_account" 693, .str "is_account" 694, .str "/claim/cut.py" 695, .int (122) 0, .int (1) 0, .int (0) 0, .int (0) 0, .int (3) 0, .ref 395, .bool true, .int (181) 0, .ref 396, .none, .ref 397, .ref 398, .ref 399, .int (697) 0, .int (122) 0, .str "/claim/cut.py" 698].toArray, [].toArray⟩),
  (408, ⟨.type "function", none, .func ⟨"is_side", "is_side", defArgs s_is_side, .stmts (defBody s_is_side), defScope s_is_side, 3, [], .none, .none, .none, .str "vaultbridge.kinds" 648, none, .ref 407, .none, 0⟩, [].toArray⟩),
  (407, ⟨.type "code", none, .fields [.str "is_side" 700, .str "is_side" 701, .str "/claim/cut.py" 702, .int (124) 0, .int (1) 0, .int (0) 0, .int (0) 0, .int (3) 0, .ref 402, .bool true, .int (181) 0, .ref 403, .none, .ref 404, .ref 405, .ref 406, .int (704) 0, .int (124) 0, .str "/claim/cut.py" 705].toArray, [].toArray⟩),
  (415, ⟨.type "function", none, .func ⟨"is_set", "is_set", defArgs s_is_set, .stmts (defBody s_is_set), defScope s_is_set, 3, [], .none, .none, .none, .str "vaultbridge.sets" 707, none, .ref 414, .none, 0⟩, [].toArray⟩),
  (414, ⟨.type "code", none, .fields [.str "is_set" 709, .str "is_set" 710, .str "/claim/cut.py" 711, .int (127) 0, .int (1) 0, .int (0) 0, .int (0) 0, .int (3) 0, .ref 409, .bool true, .int (181) 0, .ref 410, .none, .ref 411, .ref 412, .ref 413, .int (715) 0, .int (127) 0, .str "/claim/cut.py" 716].toArray, [].toArray⟩),
  (422, ⟨.type "function", none, .func ⟨"is_pair", "is_pair", defArgs s_is_pair, .stmts (defBody s_is_pair), defScope s_is_pair, 3, [], .none, .none, .none, .str "vaultbridge.sets" 707, none, .ref 421, .none, 0⟩, [].toArray⟩),
  (421, ⟨.type "code", none, .fields [.str "is_pair" 718, .str "is_pair" 719, .str "/claim/cut.py" 720, .int (136) 0, .int (1) 0, .int (0) 0, .int (0) 0, .int (3) 0, .ref 416, .bool true, .int (181) 0, .ref 417, .none, .ref 418, .ref 419, .ref 420, .int (722) 0, .int (136) 0, .str "/claim/cut.py" 723].toArray, [].toArray⟩),
  (463, ⟨.type "function", none, .func ⟨"__init__", "Config.__init__", defArgs s_Config_init, .stmts (defBody s_Config_init), defScope s_Config_init, 3, [], .none, .ref 456, .none, .str "vaultbridge.config" 745, none, .ref 462, .none, 0⟩, [].toArray⟩),
  (462, ⟨.type "code", none, .fields [.str "__init__" 778, .str "Config.__init__" 779, .str "/claim/cut.py" 780, .int (151) 0, .int (1) 0, .int (0) 0, .int (7) 0, .int (3) 0, .ref 457, .bool true, .int (181) 0, .ref 458, .none, .ref 459, .ref 460, .ref 461, .int (790) 0, .int (151) 0, .str "/claim/cut.py" 791].toArray, [].toArray⟩),
  (456, ⟨.type "dict", none, .dict [⟨PyData.keyHash P "depth", .str "depth" 774, .int (2) 770⟩, ⟨PyData.keyHash P "window", .str "window" 775, .int (4) 771⟩, ⟨PyData.keyHash P "delay", .str "delay" 776, .int (2) 772⟩, ⟨PyData.keyHash P "bundle", .str "bundle" 777, .int (4) 773⟩].toArray 4, [].toArray⟩),
  (477, ⟨.type "function", none, .func ⟨"check_token", "Config.check_token", defArgs s_Config_check_token, .stmts (defBody s_Config_check_token), defScope s_Config_check_token, 3, [], .none, .none, .none, .str "vaultbridge.config" 745, none, .ref 476, .none, 0⟩, [].toArray⟩),
  (476, ⟨.type "code", none, .fields [.str "check_token" 800, .str "Config.check_token" 801, .str "/claim/cut.py" 802, .int (180) 0, .int (2) 0, .int (0) 0, .int (0) 0, .int (3) 0, .ref 471, .bool true, .int (181) 0, .ref 472, .none, .ref 473, .ref 474, .ref 475, .int (805) 0, .int (180) 0, .str "/claim/cut.py" 806].toArray, [].toArray⟩),
  (484, ⟨.type "function", none, .func ⟨"home", "Config.home", defArgs s_Config_home, .stmts (defBody s_Config_home), defScope s_Config_home, 3, [], .none, .none, .none, .str "vaultbridge.config" 745, none, .ref 483, .none, 0⟩, [].toArray⟩),
  (483, ⟨.type "code", none, .fields [.str "home" 808, .str "Config.home" 809, .str "/claim/cut.py" 810, .int (184) 0, .int (2) 0, .int (0) 0, .int (0) 0, .int (3) 0, .ref 478, .bool true, .int (181) 0, .ref 479, .none, .ref 480, .ref 481, .ref 482, .int (813) 0, .int (184) 0, .str "/claim/cut.py" 814].toArray, [].toArray⟩),
  (491, ⟨.type "function", none, .func ⟨"scale", "Config.scale", defArgs s_Config_scale, .stmts (defBody s_Config_scale), defScope s_Config_scale, 3, [], .none, .none, .none, .str "vaultbridge.config" 745, none, .ref 490, .none, 0⟩, [].toArray⟩),
  (490, ⟨.type "code", none, .fields [.str "scale" 816, .str "Config.scale" 817, .str "/claim/cut.py" 818, .int (188) 0, .int (2) 0, .int (0) 0, .int (0) 0, .int (3) 0, .ref 485, .bool true, .int (181) 0, .ref 486, .none, .ref 487, .ref 488, .ref 489, .int (821) 0, .int (188) 0, .str "/claim/cut.py" 822].toArray, [].toArray⟩),
  (510, ⟨.type "function", none, .func ⟨"opening", "Config.opening", defArgs s_Config_opening, .stmts (defBody s_Config_opening), defScope s_Config_opening, 3, [], .none, .none, .none, .str "vaultbridge.config" 745, none, .ref 509, .none, 0⟩, [].toArray⟩),
  (509, ⟨.type "code", none, .fields [.str "opening" 840, .str "Config.opening" 841, .str "/claim/cut.py" 842, .int (200) 0, .int (2) 0, .int (0) 0, .int (0) 0, .int (3) 0, .ref 506, .bool true, .int (181) 0, .ref 507, .none, .none, .none, .ref 508, .int (843) 0, .int (200) 0, .str "/claim/cut.py" 844].toArray, [].toArray⟩),
  (517, ⟨.type "function", none, .func ⟨"guards", "Config.guards", defArgs s_Config_guards, .stmts (defBody s_Config_guards), defScope s_Config_guards, 3, [], .none, .none, .none, .str "vaultbridge.config" 745, none, .ref 516, .none, 0⟩, [].toArray⟩),
  (516, ⟨.type "code", none, .fields [.str "guards" 846, .str "Config.guards" 847, .str "/claim/cut.py" 848, .int (203) 0, .int (1) 0, .int (0) 0, .int (0) 0, .int (3) 0, .ref 511, .bool true, .int (181) 0, .ref 512, .none, .ref 513, .ref 514, .ref 515, .int (850) 0, .int (203) 0, .str "/claim/cut.py" 851].toArray, [].toArray⟩),
  (524, ⟨.type "function", none, .func ⟨"depth", "Config.depth", defArgs s_Config_depth, .stmts (defBody s_Config_depth), defScope s_Config_depth, 3, [], .none, .none, .none, .str "vaultbridge.config" 745, none, .ref 523, .none, 0⟩, [].toArray⟩),
  (523, ⟨.type "code", none, .fields [.str "depth" 853, .str "Config.depth" 854, .str "/claim/cut.py" 855, .int (206) 0, .int (1) 0, .int (0) 0, .int (0) 0, .int (3) 0, .ref 518, .bool true, .int (181) 0, .ref 519, .none, .ref 520, .ref 521, .ref 522, .int (857) 0, .int (206) 0, .str "/claim/cut.py" 858].toArray, [].toArray⟩),
  (531, ⟨.type "function", none, .func ⟨"window", "Config.window", defArgs s_Config_window, .stmts (defBody s_Config_window), defScope s_Config_window, 3, [], .none, .none, .none, .str "vaultbridge.config" 745, none, .ref 530, .none, 0⟩, [].toArray⟩),
  (530, ⟨.type "code", none, .fields [.str "window" 860, .str "Config.window" 861, .str "/claim/cut.py" 862, .int (209) 0, .int (1) 0, .int (0) 0, .int (0) 0, .int (3) 0, .ref 525, .bool true, .int (181) 0, .ref 526, .none, .ref 527, .ref 528, .ref 529, .int (864) 0, .int (209) 0, .str "/claim/cut.py" 865].toArray, [].toArray⟩),
  (538, ⟨.type "function", none, .func ⟨"delay", "Config.delay", defArgs s_Config_delay, .stmts (defBody s_Config_delay), defScope s_Config_delay, 3, [], .none, .none, .none, .str "vaultbridge.config" 745, none, .ref 537, .none, 0⟩, [].toArray⟩),
  (537, ⟨.type "code", none, .fields [.str "delay" 867, .str "Config.delay" 868, .str "/claim/cut.py" 869, .int (212) 0, .int (1) 0, .int (0) 0, .int (0) 0, .int (3) 0, .ref 532, .bool true, .int (181) 0, .ref 533, .none, .ref 534, .ref 535, .ref 536, .int (871) 0, .int (212) 0, .str "/claim/cut.py" 872].toArray, [].toArray⟩),
  (545, ⟨.type "function", none, .func ⟨"bundle", "Config.bundle", defArgs s_Config_bundle, .stmts (defBody s_Config_bundle), defScope s_Config_bundle, 3, [], .none, .none, .none, .str "vaultbridge.config" 745, none, .ref 544, .none, 0⟩, [].toArray⟩),
  (544, ⟨.type "code", none, .fields [.str "bundle" 874, .str "Config.bundle" 875, .str "/claim/cut.py" 876, .int (215) 0, .int (1) 0, .int (0) 0, .int (0) 0, .int (3) 0, .ref 539, .bool true, .int (181) 0, .ref 540, .none, .ref 541, .ref 542, .ref 543, .int (878) 0, .int (215) 0, .str "/claim/cut.py" 879].toArray, [].toArray⟩),
  (559, ⟨.type "function", none, .func ⟨"check_list", "check_list", defArgs s_check_list, .stmts (defBody s_check_list), defScope s_check_list, 3, [], .none, .none, .none, .str "vaultbridge.config" 745, none, .ref 558, .none, 0⟩, [].toArray⟩),
  (558, ⟨.type "code", none, .fields [.str "check_list" 896, .str "check_list" 897, .str "/claim/cut.py" 898, .int (217) 0, .int (2) 0, .int (0) 0, .int (0) 0, .int (3) 0, .ref 553, .bool true, .int (181) 0, .ref 554, .none, .ref 555, .ref 556, .ref 557, .int (901) 0, .int (217) 0, .str "/claim/cut.py" 902].toArray, [].toArray⟩),
  (566, ⟨.type "function", none, .func ⟨"check_least", "check_least", defArgs s_check_least, .stmts (defBody s_check_least), defScope s_check_least, 3, [], .none, .none, .none, .str "vaultbridge.config" 745, none, .ref 565, .none, 0⟩, [].toArray⟩)]
def KK2 (P : Params) : PySem.W.Frag := [(565, ⟨.type "code", none, .fields [.str "check_least" 904, .str "check_least" 905, .str "/claim/cut.py" 906, .int (220) 0, .int (3) 0, .int (0) 0, .int (0) 0, .int (3) 0, .ref 560, .bool true, .int (181) 0, .ref 561, .none, .ref 562, .ref 563, .ref 564, .int (910) 0, .int (220) 0, .str "/claim/cut.py" 911].toArray, [].toArray⟩),
  (573, ⟨.type "function", none, .func ⟨"check_token_row", "check_token_row", defArgs s_check_token_row, .stmts (defBody s_check_token_row), defScope s_check_token_row, 3, [], .none, .none, .none, .str "vaultbridge.config" 745, none, .ref 572, .none, 0⟩, [].toArray⟩),
  (572, ⟨.type "code", none, .fields [.str "check_token_row" 913, .str "check_token_row" 914, .str "/claim/cut.py" 915, .int (223) 0, .int (1) 0, .int (0) 0, .int (0) 0, .int (3) 0, .ref 567, .bool true, .int (181) 0, .ref 568, .none, .ref 569, .ref 570, .ref 571, .int (922) 0, .int (223) 0, .str "/claim/cut.py" 923].toArray, [].toArray⟩),
  (580, ⟨.type "function", none, .func ⟨"check_balance_row", "check_balance_row", defArgs s_check_balance_row, .stmts (defBody s_check_balance_row), defScope s_check_balance_row, 3, [], .none, .none, .none, .str "vaultbridge.config" 745, none, .ref 579, .none, 0⟩, [].toArray⟩),
  (579, ⟨.type "code", none, .fields [.str "check_balance_row" 925, .str "check_balance_row" 926, .str "/claim/cut.py" 927, .int (234) 0, .int (2) 0, .int (0) 0, .int (0) 0, .int (3) 0, .ref 574, .bool true, .int (181) 0, .ref 575, .none, .ref 576, .ref 577, .ref 578, .int (933) 0, .int (234) 0, .str "/claim/cut.py" 934].toArray, [].toArray⟩),
  (804, ⟨.type "function", none, .func ⟨"next_height", "next_height", defArgs s_next_height, .stmts (defBody s_next_height), defScope s_next_height, 3, [], .none, .none, .none, .str "vaultbridge.gateway" 984, none, .ref 803, .none, 0⟩, [].toArray⟩),
  (803, ⟨.type "code", none, .fields [.str "next_height" 1388, .str "next_height" 1389, .str "/claim/cut.py" 1390, .int (484) 0, .int (1) 0, .int (0) 0, .int (0) 0, .int (3) 0, .ref 798, .bool true, .int (181) 0, .ref 799, .none, .ref 800, .ref 801, .ref 802, .int (1393) 0, .int (484) 0, .str "/claim/cut.py" 1394].toArray, [].toArray⟩),
  (811, ⟨.type "function", none, .func ⟨"after_block", "after_block", defArgs s_after_block, .stmts (defBody s_after_block), defScope s_after_block, 3, [], .none, .none, .none, .str "vaultbridge.gateway" 984, none, .ref 810, .none, 0⟩, [].toArray⟩),
  (810, ⟨.type "code", none, .fields [.str "after_block" 1396, .str "after_block" 1397, .str "/claim/cut.py" 1398, .int (488) 0, .int (4) 0, .int (0) 0, .int (0) 0, .int (3) 0, .ref 805, .bool true, .int (181) 0, .ref 806, .none, .ref 807, .ref 808, .ref 809, .int (1408) 0, .int (488) 0, .str "/claim/cut.py" 1409].toArray, [].toArray⟩),
  (825, ⟨.type "function", none, .func ⟨"__init__", "Sheet.__init__", defArgs s_Sheet_init, .stmts (defBody s_Sheet_init), defScope s_Sheet_init, 3, [], .none, .none, .none, .str "vaultbridge.sheet" 1411, none, .ref 824, .none, 0⟩, [].toArray⟩),
  (824, ⟨.type "code", none, .fields [.str "__init__" 1425, .str "Sheet.__init__" 1426, .str "/claim/cut.py" 1427, .int (503) 0, .int (3) 0, .int (0) 0, .int (0) 0, .int (3) 0, .ref 819, .bool true, .int (181) 0, .ref 820, .none, .ref 821, .ref 822, .ref 823, .int (1434) 0, .int (503) 0, .str "/claim/cut.py" 1435].toArray, [].toArray⟩),
  (832, ⟨.type "function", none, .func ⟨"copy", "Sheet.copy", defArgs s_Sheet_copy, .stmts (defBody s_Sheet_copy), defScope s_Sheet_copy, 3, [], .none, .none, .none, .str "vaultbridge.sheet" 1411, none, .ref 831, .none, 0⟩, [].toArray⟩),
  (831, ⟨.type "code", none, .fields [.str "copy" 1437, .str "Sheet.copy" 1438, .str "/claim/cut.py" 1439, .int (512) 0, .int (1) 0, .int (0) 0, .int (0) 0, .int (3) 0, .ref 826, .bool true, .int (181) 0, .ref 827, .none, .ref 828, .ref 829, .ref 830, .int (1442) 0, .int (512) 0, .str "/claim/cut.py" 1443].toArray, [].toArray⟩),
  (928, ⟨.type "function", none, .func ⟨"copied", "copied", defArgs s_copied, .stmts (defBody s_copied), defScope s_copied, 3, [], .none, .none, .none, .str "vaultbridge.sheet" 1411, none, .ref 927, .none, 0⟩, [].toArray⟩),
  (927, ⟨.type "code", none, .fields [.str "copied" 1573, .str "copied" 1574, .str "/claim/cut.py" 1575, .int (563) 0, .int (1) 0, .int (0) 0, .int (0) 0, .int (3) 0, .ref 924, .bool true, .int (181) 0, .ref 925, .none, .none, .none, .ref 926, .int (1576) 0, .int (563) 0, .str "/claim/cut.py" 1577].toArray, [].toArray⟩),
  (935, ⟨.type "function", none, .func ⟨"held", "held", defArgs s_held, .stmts (defBody s_held), defScope s_held, 3, [], .none, .none, .none, .str "vaultbridge.sheet" 1411, none, .ref 934, .none, 0⟩, [].toArray⟩),
  (934, ⟨.type "code", none, .fields [.str "held" 1579, .str "held" 1580, .str "/claim/cut.py" 1581, .int (565) 0, .int (3) 0, .int (0) 0, .int (0) 0, .int (3) 0, .ref 929, .bool true, .int (181) 0, .ref 930, .none, .ref 931, .ref 932, .ref 933, .int (1585) 0, .int (565) 0, .str "/claim/cut.py" 1586].toArray, [].toArray⟩),
  (942, ⟨.type "function", none, .func ⟨"put", "put", defArgs s_put, .stmts (defBody s_put), defScope s_put, 3, [], .none, .none, .none, .str "vaultbridge.sheet" 1411, none, .ref 941, .none, 0⟩, [].toArray⟩),
  (941, ⟨.type "code", none, .fields [.str "put" 1588, .str "put" 1589, .str "/claim/cut.py" 1590, .int (567) 0, .int (4) 0, .int (0) 0, .int (0) 0, .int (3) 0, .ref 936, .bool true, .int (181) 0, .ref 937, .none, .ref 938, .ref 939, .ref 940, .int (1596) 0, .int (567) 0, .str "/claim/cut.py" 1597].toArray, [].toArray⟩),
  (963, ⟨.type "function", none, .func ⟨"__init__", "State.__init__", defArgs s_State_init, .stmts (defBody s_State_init), defScope s_State_init, 3, [], .none, .none, .none, .str "vaultbridge.state" 1609, none, .ref 962, .none, 0⟩, [].toArray⟩),
  (962, ⟨.type "code", none, .fields [.str "__init__" 1629, .str "State.__init__" 1630, .str "/claim/cut.py" 1631, .int (580) 0, .int (4) 0, .int (0) 0, .int (0) 0, .int (3) 0, .ref 957, .bool true, .int (181) 0, .ref 958, .none, .ref 959, .ref 960, .ref 961, .int (1636) 0, .int (580) 0, .str "/claim/cut.py" 1637].toArray, [].toArray⟩),
  (970, ⟨.type "function", none, .func ⟨"copy", "State.copy", defArgs s_State_copy, .stmts (defBody s_State_copy), defScope s_State_copy, 3, [], .none, .none, .none, .str "vaultbridge.state" 1609, none, .ref 969, .none, 0⟩, [].toArray⟩),
  (969, ⟨.type "code", none, .fields [.str "copy" 1639, .str "State.copy" 1640, .str "/claim/cut.py" 1641, .int (594) 0, .int (1) 0, .int (0) 0, .int (0) 0, .int (3) 0, .ref 964, .bool true, .int (181) 0, .ref 965, .none, .ref 966, .ref 967, .ref 968, .int (1644) 0, .int (594) 0, .str "/claim/cut.py" 1645].toArray, [].toArray⟩),
  (1117, ⟨.type "function", none, .func ⟨"rise", "State.rise", defArgs s_State_rise, .stmts (defBody s_State_rise), defScope s_State_rise, 3, [], .none, .none, .none, .str "vaultbridge.state" 1609, none, .ref 1116, .none, 0⟩, [].toArray⟩),
  (1116, ⟨.type "code", none, .fields [.str "rise" 1806, .str "State.rise" 1807, .str "/claim/cut.py" 1808, .int (675) 0, .int (1) 0, .int (0) 0, .int (0) 0, .int (3) 0, .ref 1111, .bool true, .int (181) 0, .ref 1112, .none, .ref 1113, .ref 1114, .ref 1115, .int (1810) 0, .int (675) 0, .str "/claim/cut.py" 1811].toArray, [].toArray⟩),
  (1187, ⟨.type "function", none, .func ⟨"opening_state", "opening_state", defArgs s_opening_state, .stmts (defBody s_opening_state), defScope s_opening_state, 3, [], .none, .none, .none, .str "vaultbridge.state" 1609, none, .ref 1186, .none, 0⟩, [].toArray⟩),
  (1186, ⟨.type "code", none, .fields [.str "opening_state" 1899, .str "opening_state" 1900, .str "/claim/cut.py" 1901, .int (707) 0, .int (2) 0, .int (0) 0, .int (0) 0, .int (3) 0, .ref 1181, .bool true, .int (181) 0, .ref 1182, .none, .ref 1183, .ref 1184, .ref 1185, .int (1904) 0, .int (707) 0, .str "/claim/cut.py" 1905].toArray, [].toArray⟩),
  (1201, ⟨.type "function", none, .func ⟨"__init__", "Chain.__init__", defArgs s_Chain_init, .stmts (defBody s_Chain_init), defScope s_Chain_init, 3, [], .none, .none, .none, .str "vaultbridge.chain" 1907, none, .ref 1200, .none, 0⟩, [].toArray⟩),
  (1200, ⟨.type "code", none, .fields [.str "__init__" 1923, .str "Chain.__init__" 1924, .str "/claim/cut.py" 1925, .int (713) 0, .int (4) 0, .int (0) 0, .int (0) 0, .int (3) 0, .ref 1195, .bool true, .int (181) 0, .ref 1196, .none, .ref 1197, .ref 1198, .ref 1199, .int (1930) 0, .int (713) 0, .str "/claim/cut.py" 1931].toArray, [].toArray⟩),
  (1208, ⟨.type "function", none, .func ⟨"add", "Chain.add", defArgs s_Chain_add, .stmts (defBody s_Chain_add), defScope s_Chain_add, 3, [], .none, .none, .none, .str "vaultbridge.chain" 1907, none, .ref 1207, .none, 0⟩, [].toArray⟩),
  (1207, ⟨.type "code", none, .fields [.str "add" 1933, .str "Chain.add" 1934, .str "/claim/cut.py" 1935, .int (722) 0, .int (4) 0, .int (0) 0, .int (0) 0, .int (3) 0, .ref 1202, .bool true, .int (181) 0, .ref 1203, .none, .ref 1204, .ref 1205, .ref 1206, .int (1944) 0, .int (722) 0, .str "/claim/cut.py" 1945].toArray, [].toArray⟩),
  (1229, ⟨.type "function", none, .func ⟨"numbers", "Chain.numbers", defArgs s_Chain_numbers, .stmts (defBody s_Chain_numbers), defScope s_Chain_numbers, 3, [], .none, .none, .none, .str "vaultbridge.chain" 1907, none, .ref 1228, .none, 0⟩, [].toArray⟩),
  (1228, ⟨.type "code", none, .fields [.str "numbers" 1961, .str "Chain.numbers" 1962, .str "/claim/cut.py" 1963, .int (744) 0, .int (1) 0, .int (0) 0, .int (0) 0, .int (3) 0, .ref 1223, .bool true, .int (181) 0, .ref 1224, .none, .ref 1225, .ref 1226, .ref 1227, .int (1965) 0, .int (744) 0, .str "/claim/cut.py" 1966].toArray, [].toArray⟩),
  (1236, ⟨.type "function", none, .func ⟨"parent", "Chain.parent", defArgs s_Chain_parent, .stmts (defBody s_Chain_parent), defScope s_Chain_parent, 3, [], .none, .none, .none, .str "vaultbridge.chain" 1907, none, .ref 1235, .none, 0⟩, [].toArray⟩),
  (1235, ⟨.type "code", none, .fields [.str "parent" 1968, .str "Chain.parent" 1969, .str "/claim/cut.py" 1970, .int (747) 0, .int (2) 0, .int (0) 0, .int (0) 0, .int (3) 0, .ref 1230, .bool true, .int (181) 0, .ref 1231, .none, .ref 1232, .ref 1233, .ref 1234, .int (1973) 0, .int (747) 0, .str "/claim/cut.py" 1974].toArray, [].toArray⟩),
  (1264, ⟨.type "function", none, .func ⟨"final", "Chain.final", defArgs s_Chain_final, .stmts (defBody s_Chain_final), defScope s_Chain_final, 3, [], .none, .none, .none, .str "vaultbridge.chain" 1907, none, .ref 1263, .none, 0⟩, [].toArray⟩),
  (1263, ⟨.type "code", none, .fields [.str "final" 2000, .str "Chain.final" 2001, .str "/claim/cut.py" 2002, .int (763) 0, .int (1) 0, .int (0) 0, .int (0) 0, .int (3) 0, .ref 1258, .bool true, .int (181) 0, .ref 1259, .none, .ref 1260, .ref 1261, .ref 1262, .int (2004) 0, .int (763) 0, .str "/claim/cut.py" 2005].toArray, [].toArray⟩),
  (1271, ⟨.type "function", none, .func ⟨"tips", "Chain.tips", defArgs s_Chain_tips, .stmts (defBody s_Chain_tips), defScope s_Chain_tips, 3, [], .none, .none, .none, .str "vaultbridge.chain" 1907, none, .ref 1270, .none, 0⟩, [].toArray⟩),
  (1270, ⟨.type "code", none, .fields [.str "tips" 2007, .str "Chain.tips" 2008, .str "/claim/cut.py" 2009, .int (766) 0, .int (1) 0, .int (0) 0, .int (0) 0, .int (3) 0, .ref 1265, .bool true, .int (181) 0, .ref 1266, .none, .ref 1267, .ref 1268, .ref 1269, .int (2011) 0, .int (766) 0, .str "/claim/cut.py" 2012].toArray, [].toArray⟩),
  (1306, ⟨.type "function", none, .func ⟨"_check_block", "Chain._check_block", defArgs s_Chain_check_block, .stmts (defBody s_Chain_check_block), defScope s_Chain_check_block, 3, [], .none, .none, .none, .str "vaultbridge.chain" 1907, none, .ref 1305, .none, 0⟩, [].toArray⟩)]
def KK3 (P : Params) : PySem.W.Frag := [(1305, ⟨.type "code", none, .fields [.str "_check_block" 2045, .str "Chain._check_block" 2046, .str "/claim/cut.py" 2047, .int (784) 0, .int (2) 0, .int (0) 0, .int (0) 0, .int (3) 0, .ref 1300, .bool true, .int (181) 0, .ref 1301, .none, .ref 1302, .ref 1303, .ref 1304, .int (2050) 0, .int (784) 0, .str "/claim/cut.py" 2051].toArray, [].toArray⟩),
  (1327, ⟨.type "function", none, .func ⟨"__init__", "Notary.__init__", defArgs s_Notary_init, .stmts (defBody s_Notary_init), defScope s_Notary_init, 3, [], .none, .none, .none, .str "vaultbridge.notary" 2068, none, .ref 1326, .none, 0⟩, [].toArray⟩),
  (1326, ⟨.type "code", none, .fields [.str "__init__" 2082, .str "Notary.__init__" 2083, .str "/claim/cut.py" 2084, .int (790) 0, .int (1) 0, .int (0) 0, .int (0) 0, .int (3) 0, .ref 1321, .bool true, .int (181) 0, .ref 1322, .none, .ref 1323, .ref 1324, .ref 1325, .int (2086) 0, .int (790) 0, .str "/claim/cut.py" 2087].toArray, [].toArray⟩),
  (1374, ⟨.type "function", none, .func ⟨"_law_pot", "_law_pot", defArgs s_L_pot, .stmts (defBody s_L_pot), defScope s_L_pot, 3, [], .none, .none, .none, .str "law_vaultbridge_k05_final_blocks_stay" 2139, none, .ref 1373, .none, 0⟩, [].toArray⟩),
  (1373, ⟨.type "code", none, .fields [.str "_law_pot" 2141, .str "_law_pot" 2142, .str "/claim/cut.py" 2143, .int (824) 0, .int (1) 0, .int (0) 0, .int (0) 0, .int (3) 0, .ref 1368, .bool true, .int (181) 0, .ref 1369, .none, .ref 1370, .ref 1371, .ref 1372, .int (2147) 0, .int (824) 0, .str "/claim/cut.py" 2148].toArray, [].toArray⟩),
  (1381, ⟨.type "function", none, .func ⟨"_law_next", "_law_next", defArgs s_L_next, .stmts (defBody s_L_next), defScope s_L_next, 3, [], .none, .none, .none, .str "law_vaultbridge_k05_final_blocks_stay" 2139, none, .ref 1380, .none, 0⟩, [].toArray⟩),
  (1380, ⟨.type "code", none, .fields [.str "_law_next" 2150, .str "_law_next" 2151, .str "/claim/cut.py" 2152, .int (829) 0, .int (2) 0, .int (0) 0, .int (0) 0, .int (3) 0, .ref 1375, .bool true, .int (181) 0, .ref 1376, .none, .ref 1377, .ref 1378, .ref 1379, .int (2158) 0, .int (829) 0, .str "/claim/cut.py" 2159].toArray, [].toArray⟩),
  (1386, ⟨.type "function", none, .func ⟨"_law_set", "_law_set", defArgs s_L_set, .stmts (defBody s_L_set), defScope s_L_set, 3, [], .none, .none, .none, .str "law_vaultbridge_k05_final_blocks_stay" 2139, none, .ref 1385, .none, 0⟩, [].toArray⟩),
  (1385, ⟨.type "code", none, .fields [.str "_law_set" 2161, .str "_law_set" 2162, .str "/claim/cut.py" 2163, .int (843) 0, .int (2) 0, .int (0) 0, .int (0) 0, .int (3) 0, .ref 1382, .bool true, .int (181) 0, .ref 1383, .none, .none, .none, .ref 1384, .int (2164) 0, .int (843) 0, .str "/claim/cut.py" 2165].toArray, [].toArray⟩),
  (1393, ⟨.type "function", none, .func ⟨"_law_config", "_law_config", defArgs s_L_config, .stmts (defBody s_L_config), defScope s_L_config, 3, [], .none, .none, .none, .str "law_vaultbridge_k05_final_blocks_stay" 2139, none, .ref 1392, .none, 0⟩, [].toArray⟩),
  (1392, ⟨.type "code", none, .fields [.str "_law_config" 2167, .str "_law_config" 2168, .str "/claim/cut.py" 2169, .int (849) 0, .int (1) 0, .int (0) 0, .int (0) 0, .int (3) 0, .ref 1387, .bool true, .int (181) 0, .ref 1388, .none, .ref 1389, .ref 1390, .ref 1391, .int (2177) 0, .int (849) 0, .str "/claim/cut.py" 2178].toArray, [].toArray⟩),
  (1400, ⟨.type "function", none, .func ⟨"_law_made", "_law_made", defArgs s_L_made, .stmts (defBody s_L_made), defScope s_L_made, 3, [], .none, .none, .none, .str "law_vaultbridge_k05_final_blocks_stay" 2139, none, .ref 1399, .none, 0⟩, [].toArray⟩),
  (1399, ⟨.type "code", none, .fields [.str "_law_made" 2180, .str "_law_made" 2181, .str "/claim/cut.py" 2182, .int (860) 0, .int (1) 0, .int (0) 0, .int (0) 0, .int (3) 0, .ref 1394, .bool true, .int (181) 0, .ref 1395, .none, .ref 1396, .ref 1397, .ref 1398, .int (2184) 0, .int (860) 0, .str "/claim/cut.py" 2185].toArray, [].toArray⟩),
  (1407, ⟨.type "function", none, .func ⟨"_law_line", "_law_line", defArgs s_L_line, .stmts (defBody s_L_line), defScope s_L_line, 3, [], .none, .none, .none, .str "law_vaultbridge_k05_final_blocks_stay" 2139, none, .ref 1406, .none, 0⟩, [].toArray⟩),
  (1406, ⟨.type "code", none, .fields [.str "_law_line" 2187, .str "_law_line" 2188, .str "/claim/cut.py" 2189, .int (862) 0, .int (2) 0, .int (0) 0, .int (0) 0, .int (3) 0, .ref 1401, .bool true, .int (181) 0, .ref 1402, .none, .ref 1403, .ref 1404, .ref 1405, .int (2194) 0, .int (862) 0, .str "/claim/cut.py" 2195].toArray, [].toArray⟩),
  (1414, ⟨.type "function", none, .func ⟨"_law_deep", "_law_deep", defArgs s_L_deep, .stmts (defBody s_L_deep), defScope s_L_deep, 3, [], .none, .none, .none, .str "law_vaultbridge_k05_final_blocks_stay" 2139, none, .ref 1413, .none, 0⟩, [].toArray⟩),
  (1413, ⟨.type "code", none, .fields [.str "_law_deep" 2197, .str "_law_deep" 2198, .str "/claim/cut.py" 2199, .int (869) 0, .int (2) 0, .int (0) 0, .int (0) 0, .int (3) 0, .ref 1408, .bool true, .int (181) 0, .ref 1409, .none, .ref 1410, .ref 1411, .ref 1412, .int (2206) 0, .int (869) 0, .str "/claim/cut.py" 2207].toArray, [].toArray⟩),
  (1419, ⟨.type "function", none, .func ⟨"law", "law", defArgs s_law, .stmts (defBody s_law), defScope s_law, 3, [], .none, .none, .none, .str "law_vaultbridge_k05_final_blocks_stay" 2139, none, .ref 1418, .none, 0⟩, [].toArray⟩),
  (1418, ⟨.type "code", none, .fields [.str "law" 2209, .str "law" 2210, .str "/claim/cut.py" 2211, .int (876) 0, .int (1) 0, .int (0) 0, .int (0) 0, .int (3) 0, .ref 1415, .bool true, .int (181) 0, .ref 1416, .none, .none, .none, .ref 1417, .int (2212) 0, .int (876) 0, .str "/claim/cut.py" 2213].toArray, [].toArray⟩),
  (366, ⟨.type "tuple", none, .seq [.str "west" 650, .str "east" 651].toArray 0, [].toArray⟩)]
def KK (P : Params) : PySem.W.Frag := KK0 P ++ (KK1 P ++ (KK2 P ++ (KK3 P)))
def kas0 : List Addr := [3, 2, 113, 112, 134, 133, 279, 278, 303, 302, 315, 314, 548, 547, 919, 918, 1176, 1175, 1309, 1308, 1363, 1362, 35, 34, 42, 41, 49, 48, 56, 55, 77, 76, 84, 83, 91, 90, 96, 95, 110, 109]
def kas1 : List Addr := [373, 372, 380, 379, 387, 386, 394, 393, 401, 400, 408, 407, 415, 414, 422, 421, 463, 462, 456, 477, 476, 484, 483, 491, 490, 510, 509, 517, 516, 524, 523, 531, 530, 538, 537, 545, 544, 559, 558, 566]
def kas2 : List Addr := [565, 573, 572, 580, 579, 804, 803, 811, 810, 825, 824, 832, 831, 928, 927, 935, 934, 942, 941, 963, 962, 970, 969, 1117, 1116, 1187, 1186, 1201, 1200, 1208, 1207, 1229, 1228, 1236, 1235, 1264, 1263, 1271, 1270, 1306]
def kas3 : List Addr := [1305, 1327, 1326, 1374, 1373, 1381, 1380, 1386, 1385, 1393, 1392, 1400, 1399, 1407, 1406, 1414, 1413, 1419, 1418, 366]
def kas : List Addr := kas0 ++ (kas1 ++ (kas2 ++ (kas3)))
abbrev RR : PySem.W.OpenRow := PySem.W.OpenLaw.row PySem.Challenge.rw_vaultbridge_k05_final_blocks_stay
abbrev qv : Program := PySem.W.view RR.prog [120]
def nml0 : List PySem.Str := ["_wall", "__name__", "Blocks", "BridgeError", "InvalidArgument", "InvalidOrder", "UnknownToken", "NotEnoughBalance", "NotEnoughWeight", "WrongSide", "WrongNumber", "AlreadyTaken", "UnknownTransfer", "LimitReached", "Stopped", "UnknownParent", "UnknownBlock", "DuplicateBlock", "ConflictsWithFinal", "UnknownSeal", "TooEarly", "StillOnDuty", "NothingBonded", "SIDES", "ACCOUNT_LENGTH", "FIRST_CODE", "LAST_CODE", "BARRED_CODE", "is_integer", "is_at_least"]
def nml1 : List PySem.Str := ["is_text", "is_short_text", "is_account", "is_side", "is_set", "is_pair", "total", "threshold", "minority", "TOKEN_LENGTH", "MOST_IN_BUNDLE", "other_side", "Config", "check_list", "check_least", "check_token_row", "check_balance_row", "ABOUT_ONE", "ABOUT_ALL", "MOST_TRANSFERS", "is_transfer", "is_bundle", "is_letter", "key", "FROM_OTHER_SIDE", "OF_THIS_SIDE", "NOT_WHEN_STOPPED", "check_amount", "do_pay", "do_send"]
def nml2 : List PySem.Str := ["do_bond", "do_unbond", "do_accuse", "sets_in_use", "check_backed", "check_current", "check_vault", "give", "is_beyond_limit", "deliver", "refuse", "accept", "take_deliver", "take_bundle", "take_cancel", "take_return", "take_rotate", "take_stop", "take_resume", "LETTERS", "do_take", "do_claim", "ORDERS", "PARTS", "word_of", "named_seals", "outcome", "next_height", "after_block", "Sheet"]
def nml3 : List PySem.Str := ["copied", "held", "put", "draw", "DELIVERED", "REFUSED", "WAITING", "State", "opening_state", "FIRST", "Chain", "Notary", "_law_pot", "_law_next", "_law_set", "_law_config", "_law_made", "_law_line", "_law_deep"]
def nms : List PySem.Str := nml0 ++ (nml1 ++ (nml2 ++ (nml3)))
abbrev hk : PySem.W.Hook := PySem.W.kHook KK kas (fun _ => rfl)
def obs (s : PySem.W.SharedT) : List (Option Obj) := kas.map (HandSHeadRun.getT s)
theorem obs_eq (s : PySem.W.SharedT) : obs s = hk.obs s.abs := congrArg (fun g => kas.map g) (funext (HandSHeadRun.getT_eq s))
theorem runF (w : World) : HandSHeadRun.RunEq RR qv hk obs 30000 nms (w.withFollow "special-get-raises" false) := by
  intro os
  kernel_rfl
theorem runT (w : World) : HandSHeadRun.RunEq RR qv hk obs 30000 nms (w.withFollow "special-get-raises" true) := by
  intro os
  kernel_rfl
theorem run (w : World) : HandSHeadRun.RunEq RR qv hk obs 30000 nms w := PySem.W.byRow2 "special-get-raises" (P := fun w => HandSHeadRun.RunEq RR qv hk obs 30000 nms w) runF runT w

/-! readings, one step a lemma -/
section
open PySem PySem.Spec PyProof.Rows L2
variable {K : PySem.W.Frag} {σ : L2.St} {H H1 H' : Hp} {Q : VK} {D : Ends} {t u : TS} {ta tb tc te : TE} {tt tu : TT} {tr : TA} {g : TG} {v x y : V} {i j : Int} {a b p l : Addr} {xs ys : List V} {o : HO}

/-! heaps -/
theorem upd_new {c : Addr} {w : HO} (hb : H b = none) (h : H c = some o) : upd H b w c = some o := by
  rw [upd_ne (ne_of_none h hb)]; exact h
theorem upd_other {c : Addr} {w : HO} (hb : c ≠ b) (h : H c = some o) : upd H b w c = some o := by
  rw [upd_ne hb]; exact h
theorem upd_free {c : Addr} {w : HO} (hb : c ≠ b) (h : H c = none) : upd H b w c = none := by
  rw [upd_ne hb]; exact h
theorem upd_none_ne {c : Addr} {w : HO} (h : upd H b w c = none) : c ≠ b := fun e => by rw [e, upd_same] at h; cases h
theorem upd_none_back {c : Addr} {w : HO} (h : upd H b w c = none) : H c = none := by rw [upd_ne (upd_none_ne h)] at h; exact h
/-- everything but p stays -/
def Kp (p : Addr) (H H' : Hp) : Prop := ∀ b o, H b = some o → b ≠ p → H' b = some o
theorem Kp.get {c : Addr} (k : Kp p H H') (h : H c = some o) (n : c ≠ p) : H' c = some o := k c o h n
theorem Kp.refl : Kp p H H := fun _ _ h _ => h
theorem Kp.trans (k : Kp p H H1) (k2 : Kp p H1 H') : Kp p H H' := fun b o h n => k2 b o (k b o h n) n
theorem Kp.upd {w : HO} (k : Kp p H H') : Kp p H (upd H' p w) := fun b o h n => upd_other n (k b o h n)
theorem Kp.new {w : HO} (k : Kp p H H') (h : H a = none) : Kp p H (L2.upd H' a w) := fun b o hb n => upd_other (ne_of_none hb h) (k b o hb n)
theorem Kp.fresh (k : Kp p H H') (hp : H p = some o) (h : H' a = none) (n : a ≠ p) : H a = none := by
  cases q : H a with
  | none => rfl
  | some w => rw [k a w q n] at h; cases h
theorem Same.get {c : Addr} (k : Same H H') (h : H c = some o) : H' c = some o := k c o h
theorem Same.new {w : HO} (k : Same H H') (h : H a = none) : Same H (L2.upd H' a w) := fun b o hb => upd_other (ne_of_none hb h) (k b o hb)
theorem Same.up {w : HO} (k : Same H H') (h : H' a = none) : Same H (L2.upd H' a w) := Same.new k (Same.free k h)
theorem Same.kp (k : Same H H') : Kp p H H' := fun b o h _ => k b o h
theorem sqL (h : H a = some (.lst xs)) : SqL K H a xs := .inl (.inl h)
theorem sqT (h : H a = some (.tup xs)) : SqT K H a xs := .inl (.inl h)

/-- a tuple of the written part -/
def SqTK (K : PySem.W.Frag) (a : Addr) (xs : List V) : Prop := ∃ (o : Obj) (its : Array Value) (n : Nat), K.lookup a = some o ∧ o.cls = .type "tuple" ∧ o.data = .seq its n ∧ its.size ≤ sizeLine ∧ Vals xs its.toList
theorem SqTK.sq {xs : List V} (h : SqTK K a xs) : SqT K H a xs := .inr h
def relB : V → Value → Bool
  | .str x, .str z _ => decide (x = z)
  | .int i, .int k _ => decide (i = k)
  | _, _ => false
theorem relB_rel : ∀ {x : V} {u : Value}, relB x u = true → RelV x u := by
  intro x u h
  cases x <;> cases u <;> first | (cases h; done) | skip
  · have e := of_decide_eq_true h
    subst e
    exact ⟨_, rfl⟩
  · have e := of_decide_eq_true h
    subst e
    exact ⟨_, rfl⟩
def ValsB : List V → List Value → Bool
  | [], [] => true
  | x :: xs, u :: us => relB x u && ValsB xs us
  | _, _ => false
theorem ValsB.vals : ∀ {xs : List V} {us : List Value}, ValsB xs us = true → Vals xs us
  | [], [], _ => .nil
  | [], _ :: _, h => by cases h
  | _ :: _, [], h => by cases h
  | x :: xs, u :: us, h => by
    have h : (relB x u && ValsB xs us) = true := h
    rw [Bool.and_eq_true] at h
    exact .cons (relB_rel h.1) (ValsB.vals h.2)
theorem ValsB.size {xs : List V} {its : Array Value} (h : ValsB xs its.toList = true) (hl : xs.length ≤ sizeLine) : its.size ≤ sizeLine := by
  have e := (ValsB.vals h).length
  have : its.toList.length = its.size := rfl
  omega
theorem hr65 {A : Around} {k : Nat} (hr : Room k A) : A.units + 65 < cLine := by have := hr.un; omega
theorem Same.sqT {xs : List V} (e : Same H H') (h : SqT K H a xs) : SqT K H' a xs := by
  rcases h with (h | ⟨o, h⟩) | h
  · exact .inl (.inl (e _ _ h))
  · exact .inl (.inr ⟨o, e _ _ h⟩)
  · exact .inr h
/-! statements -/
theorem q_seq (h : t { D with nx := u D } σ H) : tSeq t u D σ H := h
theorem q_next (h : D.nx σ H) : tNext D σ H := h
theorem q_brk (h : D.bk σ H) : tBreak D σ H := h
theorem q_ct (h : D.ct σ H) : tCont D σ H := h
theorem q_nx {f : L2.St → Hp → Prop} {r : VK} {b c : L2.St → Hp → Prop} (h : f σ H) : Ends.nx ⟨f, r, b, c⟩ σ H := h
theorem q_bk {f : L2.St → Hp → Prop} {r : VK} {b c : L2.St → Hp → Prop} (h : b σ H) : Ends.bk ⟨f, r, b, c⟩ σ H := h
theorem q_cn {f : L2.St → Hp → Prop} {r : VK} {b c : L2.St → Hp → Prop} (h : c σ H) : Ends.ct ⟨f, r, b, c⟩ σ H := h
theorem q_rt {f : L2.St → Hp → Prop} {r : VK} {b c : L2.St → Hp → Prop} (h : r v H) : Ends.rt ⟨f, r, b, c⟩ v H := h
theorem q_drop (h : te σ H fun _ H1 => D.nx σ H1) : tDrop te D σ H := h
theorem q_ret (h : te σ H D.rt) : tRet te D σ H := h
theorem q_retN (h : D.rt .non H) : tRetN D σ H := h
def ifK (D : Ends) (t u : TS) (σ : L2.St) : Bool → Hp → Prop := fun b H => if b = true then t D σ H else u D σ H
theorem q_ifS (h : tt σ H (ifK D t u σ)) : tIfS tt t u D σ H := h
theorem q_ifT (h : t D σ H) : ifK D t u σ true H := iteT h
theorem q_ifF (h : u D σ H) : ifK D t u σ false H := iteF h
theorem q_if2 {c : Bool} (h : c = true → t D σ H) (h2 : c = false → u D σ H) : ifK D t u σ c H := by
  cases c with
  | true => exact iteT (h rfl)
  | false => exact iteF (h2 rfl)
theorem q_asg (h : te σ H fun x H1 => g x σ H1 D.nx) : tAsg te g D σ H := h
theorem q_gName {n : Nat} {R : L2.St → Hp → Prop} (h : R (σ.set n (some v)) H) : gName n v σ H R := h
theorem q_gTup {n : Nat} {tg : TGs} {R : L2.St → Hp → Prop} (h : SqT K H a xs) (hn : xs.length = n) (k : tg xs σ H R) : gTup K n tg (.ref a) σ H R := ⟨a, xs, rfl, h, hn, k⟩
theorem q_gCons {tg : TGs} {R : L2.St → Hp → Prop} (k : g v σ H fun σ' H' => tg xs σ' H' R) : gCons g tg (v :: xs) σ H R := ⟨v, xs, rfl, k⟩
theorem q_gNil {R : L2.St → Hp → Prop} (k : R σ H) : gNil [] σ H R := ⟨rfl, k⟩
theorem q_gSub {to ti : TE} {ts : TSet} {R : L2.St → Hp → Prop} (k : to σ H fun o H1 => ti σ H1 fun i H2 => ts o i v H2 fun H3 => R σ H3) : gSub to ti ts v σ H R := k
theorem q_setL {R : Hp → Prop} {n : Nat} (h : H p = some (.lst xs)) (hi : ixN xs.length i = some n) (k : R (upd H p (.lst (xs.set n v)))) : rSetL (.ref p) (.int i) v H R := ⟨p, xs, i, n, rfl, rfl, h, hi, k⟩
theorem q_aug {n : Nat} {ti : TIp} (hx : σ[n]? = some (some x)) (h : te σ H fun y H1 => ti x y H1 fun z H2 => D.nx (σ.set n (some z)) H2) : tAug n te ti D σ H := ⟨x, hx, h⟩
theorem q_ipI {f : Int → Int → Int} (k : Q (.int (f i j)) H) : ipI f (.int i) (.int j) H Q := ⟨i, j, rfl, rfl, k⟩
theorem q_cut {Mid : L2.St → Hp → Prop} (h : t { D with nx := Mid } σ H) (k : ∀ σ' H', Mid σ' H' → u D σ' H') : Evl.tCut t u D σ H := ⟨Mid, h, k⟩
theorem dec_t {c : Prop} [Decidable c] (h : decide c = true) : c := of_decide_eq_true h
theorem dec_f {c : Prop} [Decidable c] (h : decide c = false) : ¬ c := of_decide_eq_false h
theorem ndec_t {c : Prop} [Decidable c] (h : (!decide c) = true) : ¬ c := fun q => by rw [decide_eq_true q] at h; cases h
theorem ndec_f {c : Prop} [Decidable c] (h : (!decide c) = false) : c := by
  by_cases q : c
  · exact q
  · rw [decide_eq_false q] at h; cases h
def forK (g : TG) (tb : TS) (D : Ends) (σ : L2.St) : It → Hp → Prop := fun J H1 => ∃ W : Nat → Nat → L2.St → Hp → Prop, (∃ m, W 0 m σ H1) ∧ ∀ i m σ H, W i m σ H →
  (J.stop i H ∧ D.nx σ H) ∨ (J.go i H ∧ ∃ N : L2.St → Hp → Prop, (∀ σ' H', N σ' H' → ∃ m', m' < m ∧ W (i + 1) m' σ' H') ∧ ∀ x H', J.yld i H x H' → g x σ H' fun σ2 H2 => tb { D with nx := N, ct := N, bk := D.nx } σ2 H2)
theorem q_for {wi : TI} (h : wi σ H (forK g t D σ)) : tFor wi g t D σ H := h
theorem q_iList {R : It → Hp → Prop} (h : te σ H fun x H1 => ∃ a, x = .ref a ∧ (∃ xs, SqL K H1 a xs) ∧ R (Itl K a) H1) : iList K te σ H R := h
theorem q_iTup {R : It → Hp → Prop} (h : te σ H fun x H1 => ∃ a, x = .ref a ∧ (∃ xs, SqT K H1 a xs) ∧ R (Itt K a) H1) : iTup K te σ H R := h
theorem q_forL {S : List V} (h : SqL K H a S) (Pv : Nat → L2.St → Hp → Prop) (h0 : Pv 0 σ H) (hl : ∀ i σ H, i ≤ S.length → Pv i σ H → SqL K H a S)
    (hs : ∀ i x σ H, S[i]? = some x → Pv i σ H → g x σ H fun σ2 H2 => t { D with nx := Pv (i + 1), ct := Pv (i + 1), bk := D.nx } σ2 H2) (hd : ∀ σ H, Pv S.length σ H → D.nx σ H) :
    ∃ b, V.ref a = .ref b ∧ (∃ xs, SqL K H b xs) ∧ forK g t D σ (Itl K b) H := ⟨a, rfl, ⟨S, h⟩, for_list Pv h0 hl hs hd⟩
theorem q_forT {S : List V} (h : SqT K H a S) (Pv : Nat → L2.St → Hp → Prop) (h0 : Pv 0 σ H) (hl : ∀ i σ H, i ≤ S.length → Pv i σ H → SqT K H a S)
    (hs : ∀ i x σ H, S[i]? = some x → Pv i σ H → g x σ H fun σ2 H2 => t { D with nx := Pv (i + 1), ct := Pv (i + 1), bk := D.nx } σ2 H2) (hd : ∀ σ H, Pv S.length σ H → D.nx σ H) :
    ∃ b, V.ref a = .ref b ∧ (∃ xs, SqT K H b xs) ∧ forK g t D σ (Itt K b) H := ⟨a, rfl, ⟨S, h⟩, for_tup Pv h0 hl hs hd⟩
def rg1K (R : It → Hp → Prop) : List V → Hp → Prop := fun vs H1 => ∃ j : Int, vs = [.int j] ∧ -(2 ^ 62) ≤ j ∧ j < 2 ^ 62 ∧ R (Itr 0 j.toNat) H1
theorem q_iRng1 {R : It → Hp → Prop} (h : tr σ H (rg1K R)) : iRng1 tr σ H R := h
theorem q_forR (hj : 0 ≤ j ∧ j < 1000000000000000) (Pv : Nat → L2.St → Hp → Prop) (h0 : Pv 0 σ H)
    (hs : ∀ (i : Nat) σ H, (i : Int) < j → Pv i σ H → g (.int i) σ H fun σ2 H2 => t { D with nx := Pv (i + 1), ct := Pv (i + 1), bk := D.nx } σ2 H2) (hd : ∀ σ H, Pv j.toNat σ H → D.nx σ H) :
    rg1K (forK g t D σ) [.int j] H := ⟨j, rfl, by omega, by omega, for_range Pv h0 (fun i σ H hi hp => by have e : (0 : Int) + (i : Int) = (i : Int) := Int.zero_add _; rw [e]; exact hs i σ H (by omega) hp) hd⟩

/-! tests and values -/
def bK (Q : Bool → Hp → Prop) : VK := fun x H => ∃ k, x = .bl k ∧ Q k H
theorem q_test {R : Bool → Hp → Prop} (h : te σ H (bK R)) : tTest te σ H R := h
theorem q_tB {R : Bool → Hp → Prop} (h : te σ H (bK R)) : tB te σ H R := h
theorem q_bK {R : Bool → Hp → Prop} {c : Bool} (k : R c H) : bK R (.bl c) H := ⟨c, rfl, k⟩
def andK (u : TT) (σ : L2.St) (R : Bool → Hp → Prop) : Bool → Hp → Prop := fun c H1 => if c = true then u σ H1 R else R false H1
def orK (u : TT) (σ : L2.St) (R : Bool → Hp → Prop) : Bool → Hp → Prop := fun c H1 => if c = true then R true H1 else u σ H1 R
theorem q_and {R : Bool → Hp → Prop} (h : tt σ H (andK tu σ R)) : tAnd tt tu σ H R := h
theorem q_or {R : Bool → Hp → Prop} (h : tt σ H (orK tu σ R)) : tOr tt tu σ H R := h
theorem q_andT {R : Bool → Hp → Prop} (h : tu σ H R) : andK tu σ R true H := iteT h
theorem q_andF {R : Bool → Hp → Prop} (h : R false H) : andK tu σ R false H := iteF h
theorem q_orT {R : Bool → Hp → Prop} (h : R true H) : orK tu σ R true H := iteT h
theorem q_orF {R : Bool → Hp → Prop} (h : tu σ H R) : orK tu σ R false H := iteF h
theorem q_and2 {R : Bool → Hp → Prop} {c : Bool} (h : c = true → tu σ H R) (h2 : c = false → R false H) : andK tu σ R c H := by
  cases c with
  | true => exact iteT (h rfl)
  | false => exact iteF (h2 rfl)
theorem q_or2 {R : Bool → Hp → Prop} {c : Bool} (h : c = true → R true H) (h2 : c = false → tu σ H R) : orK tu σ R c H := by
  cases c with
  | true => exact iteT (h rfl)
  | false => exact iteF (h2 rfl)
def notK (R : Bool → Hp → Prop) : Bool → Hp → Prop := fun c H1 => R (!c) H1
theorem q_not {R : Bool → Hp → Prop} (h : tt σ H (notK R)) : tNot tt σ H R := h
theorem q_notKT {R : Bool → Hp → Prop} (h : R false H) : notK R true H := h
theorem q_notKF {R : Bool → Hp → Prop} (h : R true H) : notK R false H := h
theorem q_notK {R : Bool → Hp → Prop} {c : Bool} (h : R (!c) H) : notK R c H := h
def andVK (tb : TE) (σ : L2.St) (Q : VK) : VK := fun x H1 => ∃ c, x = .bl c ∧ if c = true then tb σ H1 Q else Q (.bl false) H1
def orVK (tb : TE) (σ : L2.St) (Q : VK) : VK := fun x H1 => ∃ c, x = .bl c ∧ if c = true then Q (.bl true) H1 else tb σ H1 Q
theorem q_andV (h : ta σ H (andVK tb σ Q)) : tAndV ta tb σ H Q := h
theorem q_orV (h : ta σ H (orVK tb σ Q)) : tOrV ta tb σ H Q := h
theorem q_andVT (h : tb σ H Q) : andVK tb σ Q (.bl true) H := ⟨true, rfl, iteT h⟩
theorem q_andVF (h : Q (.bl false) H) : andVK tb σ Q (.bl false) H := ⟨false, rfl, iteF h⟩
theorem q_orVT (h : Q (.bl true) H) : orVK tb σ Q (.bl true) H := ⟨true, rfl, iteT h⟩
theorem q_orVF (h : tb σ H Q) : orVK tb σ Q (.bl false) H := ⟨false, rfl, iteF h⟩
theorem q_andV2 {c : Bool} (h : c = true → tb σ H Q) (h2 : c = false → Q (.bl false) H) : andVK tb σ Q (.bl c) H := by
  cases c with
  | true => exact q_andVT (h rfl)
  | false => exact q_andVF (h2 rfl)
theorem q_orV2 {c : Bool} (h : c = true → Q (.bl true) H) (h2 : c = false → tb σ H Q) : orVK tb σ Q (.bl c) H := by
  cases c with
  | true => exact q_orVT (h rfl)
  | false => exact q_orVF (h2 rfl)
def notVK (Q : VK) : VK := fun x H1 => ∃ c, x = .bl c ∧ Q (.bl (!c)) H1
theorem q_notV (h : ta σ H (notVK Q)) : tNotV ta σ H Q := h
theorem q_notVK {c : Bool} (k : Q (.bl (!c)) H) : notVK Q (.bl c) H := ⟨c, rfl, k⟩
def ifEK (ta tb : TE) (σ : L2.St) (Q : VK) : Bool → Hp → Prop := fun c H1 => if c = true then ta σ H1 Q else tb σ H1 Q
theorem q_ifE (h : tt σ H (ifEK ta tb σ Q)) : tIf tt ta tb σ H Q := h
theorem q_ifET (h : ta σ H Q) : ifEK ta tb σ Q true H := iteT h
theorem q_ifEF (h : tb σ H Q) : ifEK ta tb σ Q false H := iteF h
theorem q_ifE2 {c : Bool} (h : c = true → ta σ H Q) (h2 : c = false → tb σ H Q) : ifEK ta tb σ Q c H := by
  cases c with
  | true => exact iteT (h rfl)
  | false => exact iteF (h2 rfl)
theorem q_yes {R : Bool → Hp → Prop} (k : R true H) : tYes σ H R := k
theorem q_var {n : Nat} (h : σ[n]? = some (some v)) (k : Q v H) : tVar n σ H Q := ⟨v, h, k⟩
theorem q_c (k : Q v H) : tC v σ H Q := k
theorem q_op {r : R2} (h : ta σ H fun x H1 => tb σ H1 fun y H2 => r x y H2 Q) : tOp r ta tb σ H Q := h
theorem q_un {r : V → Hp → VK → Prop} (h : ta σ H fun x H1 => r x H1 Q) : tUn r ta σ H Q := h
theorem q_rU {f : Int → V} (k : Q (f i) H) : rU f (.int i) H Q := ⟨i, rfl, k⟩
theorem q_I0 {f : Int → Int → V} (k : Q (f i j) H) : rI0 f (.int i) (.int j) H Q := ⟨i, j, rfl, rfl, k⟩
theorem q_I {C : Int → Int → Prop} {f : Int → Int → V} (hc : C i j) (k : Q (f i j) H) : rI C f (.int i) (.int j) H Q := ⟨i, j, rfl, rfl, hc, k⟩
theorem q_eq (hs : scal x y = true) (k : Q (.bl (decide (x = y))) H) : rEq x y H Q := ⟨hs, k⟩
theorem q_ne (hs : scal x y = true) (k : Q (.bl (!decide (x = y))) H) : rNe x y H Q := ⟨hs, k⟩
theorem dec_int (i j : Int) : decide (V.int i = V.int j) = decide (i = j) := by
  by_cases h : i = j
  · subst h; simp
  · rw [decide_eq_false h, decide_eq_false (fun e => h (V.int.inj e))]
theorem q_eqI (k : Q (.bl (decide (i = j))) H) : rEq (.int i) (.int j) H Q := ⟨rfl, by rw [dec_int]; exact k⟩
theorem q_neI (k : Q (.bl (!decide (i = j))) H) : rNe (.int i) (.int j) H Q := ⟨rfl, by rw [dec_int]; exact k⟩
theorem dec_str (i j : Str) : decide (V.str i = V.str j) = decide (i = j) := by
  by_cases h : i = j
  · subst h; simp
  · rw [decide_eq_false h, decide_eq_false (fun e => h (V.str.inj e))]
theorem q_eqS {s z : Str} (k : Q (.bl (decide (s = z))) H) : rEq (.str s) (.str z) H Q := ⟨rfl, by rw [dec_str]; exact k⟩
theorem q_neS {s z : Str} (k : Q (.bl (!decide (s = z))) H) : rNe (.str s) (.str z) H Q := ⟨rfl, by rw [dec_str]; exact k⟩
theorem q_ixL (h : SqL K H p xs) (ha : atI xs i = some v) (k : Q v H) : rIxL K (.ref p) (.int i) H Q := ⟨p, xs, i, v, rfl, rfl, h, ha, k⟩
theorem q_ixT (h : SqT K H p xs) (ha : atI xs i = some v) (k : Q v H) : rIxT K (.ref p) (.int i) H Q := ⟨p, xs, i, v, rfl, rfl, h, ha, k⟩
theorem q_ixLt (h : H p = some (.lst xs)) (ha : atI xs i = some v) (k : Q v H) : rIxL K (.ref p) (.int i) H Q := q_ixL (sqL h) ha k
theorem q_ixTt (h : H p = some (.tup xs)) (ha : atI xs i = some v) (k : Q v H) : rIxT K (.ref p) (.int i) H Q := q_ixT (sqT h) ha k
theorem q_ixSL (h : SqL K H p xs) (ha : atI xs i = some v) (k : Q v H) : rIx K (.ref p) (.int i) H Q := .inl ⟨p, xs, i, v, rfl, rfl, h, ha, k⟩
theorem q_ixST (h : SqT K H p xs) (ha : atI xs i = some v) (k : Q v H) : rIx K (.ref p) (.int i) H Q := .inr (.inl ⟨p, xs, i, v, rfl, rfl, h, ha, k⟩)
theorem at_int {α : Type} {xs : List α} {i : Int} {x : α} {n : Nat} (e : i = (n : Int)) (h : xs[n]? = some x) : atI xs i = some x := by rw [e]; exact atI_nat h
theorem q_tNil {R : List V → Hp → Prop} (k : R [] H) : tNil σ H R := k
theorem q_tCons {R : List V → Hp → Prop} (h : ta σ H fun x H1 => tr σ H1 fun xs H2 => R (x :: xs) H2) : tCons ta tr σ H R := h
def tupK (Q : VK) : List V → Hp → Prop := fun xs H1 => xs.length ≤ sizeLine ∧ ∀ p, H1 p = none → Q (.ref p) (upd H1 p (.tup xs))
def lstK (Q : VK) : List V → Hp → Prop := fun xs H1 => xs.length ≤ sizeLine ∧ ∀ p, H1 p = none → Q (.ref p) (upd H1 p (.lst xs))
theorem q_tup (h : tr σ H (tupK Q)) : tTup tr σ H Q := h
theorem q_lst (h : tr σ H (lstK Q)) : tLst tr σ H Q := h
theorem q_tupK (hl : xs.length ≤ sizeLine) (k : ∀ p, H p = none → Q (.ref p) (upd H p (.tup xs))) : tupK Q xs H := ⟨hl, k⟩
theorem q_lstK (hl : xs.length ≤ sizeLine) (k : ∀ p, H p = none → Q (.ref p) (upd H p (.lst xs))) : lstK Q xs H := ⟨hl, k⟩
theorem q_cb {r : List V → Hp → VK → Prop} (h : tr σ H fun vs H1 => r vs H1 Q) : tCB r tr σ H Q := h
def callK (sp : Sp) (dvs : List V) (E : XK) (Q : VK) : List V → Hp → Prop := fun vs H1 => sp (vs ++ dvs) H1 Q E
theorem q_call {sp : Sp} {dvs : List V} {E : XK} (h : tr σ H (callK sp dvs E Q)) : tCall sp dvs E tr σ H Q := h
theorem q_callK {sp : Sp} {E : XK} (h : sp xs H Q E) : callK sp [] E Q xs H := by unfold callK; rw [List.append_nil]; exact h

/-! built-ins, by names of our own -/
def rLenQ (K : PySem.W.Frag) : List V → Hp → VK → Prop := fun xs H Q => ∃ p ys, xs = [.ref p] ∧ (SqL K H p ys ∨ SqT K H p ys) ∧ Q (.int ys.length) H
theorem cq_len {X : Cx} : CallR X (.builtin "len") (rLenQ X.K) := call_len_seq
theorem q_lenL (h : SqL K H p xs) (k : Q (.int xs.length) H) : rLenQ K [.ref p] H Q := ⟨p, xs, rfl, .inl h, k⟩
theorem q_lenT (h : SqT K H p xs) (k : Q (.int xs.length) H) : rLenQ K [.ref p] H Q := ⟨p, xs, rfl, .inr h, k⟩
theorem q_lenLt (h : H p = some (.lst xs)) (k : Q (.int xs.length) H) : rLenQ K [.ref p] H Q := q_lenL (sqL h) k
theorem q_lenTt (h : H p = some (.tup xs)) (k : Q (.int xs.length) H) : rLenQ K [.ref p] H Q := q_lenT (sqT h) k
def rLenD : List V → Hp → VK → Prop := fun xs H Q => ∃ a kvs, xs = [V.ref a] ∧ H a = some (.dK kvs) ∧ Q (.int kvs.length) H
def rLenS : List V → Hp → VK → Prop := fun xs H Q => ∃ x : Str, xs = [.str x] ∧ x.length ≤ sizeLine ∧ Q (.int x.length) H
theorem cq_lenS {X : Cx} : CallR X (.builtin "len") rLenS := by
  intro pins s σ H xs us Q I r h
  obtain ⟨x, e, hl, q⟩ := h
  exact call_len pins s σ H xs us Q I r ⟨.str x, x.length, e, ⟨hl, rfl⟩, q⟩
theorem q_lenS {x : Str} (hl : x.length ≤ sizeLine) (k : Q (.int x.length) H) : rLenS [.str x] H Q := ⟨x, rfl, hl, k⟩
def rAbs : List V → Hp → VK → Prop := fun xs H Q => ∃ i, xs = [.int i] ∧ Q (.int (if i < 0 then -i else i)) H
theorem cq_abs {X : Cx} : CallR X (.builtin "abs") rAbs := call_abs
theorem q_abs (k : Q (.int (if i < 0 then -i else i)) H) : rAbs [.int i] H Q := ⟨i, rfl, k⟩
def rInt1 : List V → Hp → VK → Prop := fun xs H Q => (∃ i, xs = [.int i] ∧ Q (.int i) H) ∨ ∃ k, xs = [.bl k] ∧ Q (.int (if k then 1 else 0)) H
theorem cq_int1 {X : Cx} : CallR X (.type "int") rInt1 := call_int1
theorem q_int1 (k : Q (.int i) H) : rInt1 [.int i] H Q := .inl ⟨i, rfl, k⟩
def rStrInt : List V → Hp → VK → Prop := fun xs H Q => ∃ i, xs = [.int i] ∧ i.natAbs.log2 < 1920 ∧ Q (.str (toString i)) H
theorem cq_strInt {X : Cx} : CallR X (.type "str") rStrInt := call_str_int
theorem q_strInt (hb : i.natAbs.log2 < 1920) (k : Q (.str (toString i)) H) : rStrInt [.int i] H Q := ⟨i, rfl, hb, k⟩
def rListOf (K : PySem.W.Frag) : List V → Hp → VK → Prop := fun xs H Q => ∃ p ys, xs = [.ref p] ∧ (SqL K H p ys ∨ SqT K H p ys) ∧ ∀ l, H l = none → Q (.ref l) (upd H l (.lst ys))
theorem cq_listOf {X : Cx} : CallR X (.type "list") (rListOf X.K) := call_list_of
theorem q_listL (h : SqL K H p xs) (k : ∀ l, H l = none → Q (.ref l) (upd H l (.lst xs))) : rListOf K [.ref p] H Q := ⟨p, xs, rfl, .inl h, k⟩
theorem q_listT (h : SqT K H p xs) (k : ∀ l, H l = none → Q (.ref l) (upd H l (.lst xs))) : rListOf K [.ref p] H Q := ⟨p, xs, rfl, .inr h, k⟩
def rTupOf (K : PySem.W.Frag) : List V → Hp → VK → Prop := fun xs H Q => ∃ p ys, xs = [.ref p] ∧ ((SqL K H p ys ∧ ∀ l, H l = none → Q (.ref l) (upd H l (.tup ys))) ∨ (SqT K H p ys ∧ Q (.ref p) H))
theorem cq_tupOf {X : Cx} : CallR X (.type "tuple") (rTupOf X.K) := call_tuple_of
theorem q_tupL (h : SqL K H p xs) (k : ∀ l, H l = none → Q (.ref l) (upd H l (.tup xs))) : rTupOf K [.ref p] H Q := ⟨p, xs, rfl, .inl ⟨h, k⟩⟩
theorem q_sum {ns : List Int} (h : SqL K H a (ns.map V.int)) (k : Q (.int ns.sum) H) : rSum K [.ref a] H Q := ⟨a, ns, rfl, h, k⟩
theorem q_all {bs : List Bool} (h : SqL K H a (bs.map V.bl)) (k : Q (.bl (bs.all id)) H) : rAll K [.ref a] H Q := ⟨a, bs, rfl, h, k⟩
theorem q_any {bs : List Bool} (h : SqL K H a (bs.map V.bl)) (k : Q (.bl (bs.any id)) H) : rAny K [.ref a] H Q := ⟨a, bs, rfl, h, k⟩
def rAddStr : R2 := fun x y H Q => ∃ i j, x = .str i ∧ y = .str j ∧ i.length + j.length ≤ sizeLine ∧ Q (.str (i ++ j)) H
theorem oq_addStr {X : Cx} : OpR X (binaryOp .Add) rAddStr := op_add_str
theorem q_addStr {s z : Str} (hl : s.length + z.length ≤ sizeLine) (k : Q (.str (s ++ z)) H) : rAddStr (.str s) (.str z) H Q := ⟨s, z, rfl, rfl, hl, k⟩
theorem q_isN' (k : Q (.bl (decide (x = .non))) H) : rIsN x .non H Q := ⟨rfl, k⟩
theorem q_notN' (k : Q (.bl (!decide (x = .non))) H) : rNotN x .non H Q := ⟨rfl, k⟩
theorem q_inD {d : PyData} {ds : List PyData} (hd : Dp K H x d) (hy : Dp K H y (.list ds)) (s1 : SeqAt.shaped d = true) (s2 : SeqAt.shaped (.list ds) = true) (k : Q (.bl (ds.any fun z => PyData.eqv z d)) H) : rInD K x y H Q := ⟨d, ds, hd, hy, s1, s2, k⟩
theorem q_notInD {d : PyData} {ds : List PyData} (hd : Dp K H x d) (hy : Dp K H y (.list ds)) (s1 : SeqAt.shaped d = true) (s2 : SeqAt.shaped (.list ds) = true) (k : Q (.bl (!ds.any fun z => PyData.eqv z d)) H) : rNotInD K x y H Q := ⟨d, ds, hd, hy, s1, s2, k⟩
theorem q_ifNT (h : u D σ H) : ifK D t u σ (!true) H := q_ifF h
theorem q_ifNF (h : t D σ H) : ifK D t u σ (!false) H := q_ifT h
theorem q_andNT {R : Bool → Hp → Prop} (h : R false H) : andK tu σ R (!true) H := q_andF h
theorem q_andNF {R : Bool → Hp → Prop} (h : tu σ H R) : andK tu σ R (!false) H := q_andT h
theorem q_orNT {R : Bool → Hp → Prop} (h : tu σ H R) : orK tu σ R (!true) H := q_orF h
theorem q_orNF {R : Bool → Hp → Prop} (h : R true H) : orK tu σ R (!false) H := q_orT h
theorem q_bKNT {R : Bool → Hp → Prop} (h : R false H) : bK R (.bl (!true)) H := q_bK h
theorem q_bKNF {R : Bool → Hp → Prop} (h : R true H) : bK R (.bl (!false)) H := q_bK h
/-! chains, isinstance, texts, dicts -/
def chK2 (r' : R2) (y : V) (tc : TE) (σ : L2.St) (Q : VK) : VK := fun z H3 => ∃ k, z = .bl k ∧ (if k = true then tc σ H3 fun w' H4 => r' y w' H4 Q else Q (.bl false) H3)
theorem q_chain {r r' : R2} (h : ta σ H fun x H1 => tb σ H1 fun y H2 => r x y H2 (chK2 r' y tc σ Q)) : tChain r r' ta tb tc σ H Q := h
theorem q_chT {r' : R2} (h : tc σ H fun w' H4 => r' y w' H4 Q) : chK2 r' y tc σ Q (.bl true) H := ⟨true, rfl, iteT h⟩
theorem q_chF {r' : R2} (h : Q (.bl false) H) : chK2 r' y tc σ Q (.bl false) H := ⟨false, rfl, iteF h⟩
theorem q_ch2 {r' : R2} {c : Bool} (h : c = true → tc σ H fun w' H4 => r' y w' H4 Q) (h2 : c = false → Q (.bl false) H) : chK2 r' y tc σ Q (.bl c) H := by
  cases c with
  | true => exact q_chT (h rfl)
  | false => exact q_chF (h2 rfl)
def rIsiQ (K : PySem.W.Frag) : List V → Hp → VK → Prop := rIsi K
theorem q_isi {n : String} {t : Value} {c : Bool} (ht : TyX K H x t) (hk : PySem.W.kitOne K t (.type n) = some c) (k : Q (.bl c) H) : rIsi K [x, .ty n] H Q := ⟨x, .ty n, t, .type n, c, rfl, .ty n, ht, hk, k⟩
def rOrd : List V → Hp → VK → Prop := fun xs H Q => ∃ x, xs = [.str x] ∧ x.length = 1 ∧ Q (.int (x.cps.getD 0 0 : Nat)) H
theorem cq_ord {X : Cx} : CallR X (.builtin "ord") rOrd := call_ord
theorem q_ord {c : Nat} (k : Q (.int c) H) : rOrd [.str ⟨#[c]⟩] H Q := ⟨_, rfl, rfl, k⟩
theorem q_forS {s : Str} (Pv : Nat → L2.St → Hp → Prop) (h0 : Pv 0 σ H)
    (hs : ∀ i c σ H, s.cps[i]? = some c → Pv i σ H → g (.str ⟨#[c]⟩) σ H fun σ2 H2 => t { D with nx := Pv (i + 1), ct := Pv (i + 1), bk := D.nx } σ2 H2) (hd : ∀ σ H, Pv s.cps.size σ H → D.nx σ H) : forK g t D σ (Its s) H := by
  refine ⟨fun i m σ H => i + m = s.cps.size ∧ Pv i σ H, ⟨s.cps.size, Nat.zero_add _, h0⟩, fun i m σ H hW => ?_⟩
  obtain ⟨e, hp⟩ := hW
  by_cases hi : i < s.cps.size
  · refine .inr ⟨hi, Pv (i + 1), fun σ' H' hN => ⟨m - 1, by omega, by omega, hN⟩, fun x H' hy => ?_⟩
    obtain ⟨rfl, c, hc, rfl⟩ := hy
    exact hs i c σ H' hc hp
  · have e2 : i = s.cps.size := by omega
    subst e2
    exact .inl ⟨Nat.le_refl _, hd σ H hp⟩
theorem q_iStr {s : Str} {R : It → Hp → Prop} (k : R (Its s) H) : ∃ z, V.str s = .str z ∧ R (Its z) H := ⟨s, rfl, k⟩
theorem q_iStr0 {R : It → Hp → Prop} (h : te σ H fun v H1 => ∃ x, v = .str x ∧ R (Its x) H1) : iStr te σ H R := h
def dInK (Q : VK) (y : V) : VK := fun x H2 => ∃ a o, x = .ref a ∧ DGet H2 a y o ∧ Q (.bl o.isSome) H2
def dNInK (Q : VK) (y : V) : VK := fun x H2 => ∃ a o, x = .ref a ∧ DGet H2 a y o ∧ Q (.bl (!o.isSome)) H2
theorem q_tDIn {ty td : TE} (h : ty σ H fun y H1 => td σ H1 (dInK Q y)) : tDIn ty td σ H Q := h
theorem q_tDNotIn {ty td : TE} (h : ty σ H fun y H1 => td σ H1 (dNInK Q y)) : tDNotIn ty td σ H Q := h
theorem q_dInS {kvs : List (Key × V)} {s : Str} (h : H a = some (.dK kvs)) (k : Q (.bl (valV kvs (.inr s)).isSome) H) : dInK Q (.str s) (.ref a) H := ⟨a, _, rfl, DGet.k (k := Sum.inr s) h, k⟩
theorem q_dNInS {kvs : List (Key × V)} {s : Str} (h : H a = some (.dK kvs)) (k : Q (.bl (!(valV kvs (.inr s)).isSome)) H) : dNInK Q (.str s) (.ref a) H := ⟨a, _, rfl, DGet.k (k := Sum.inr s) h, k⟩
theorem q_dInI {kvs : List (Key × V)} (h : H a = some (.dK kvs)) (k : Q (.bl (valV kvs (.inl i)).isSome) H) : dInK Q (.int i) (.ref a) H := ⟨a, _, rfl, DGet.k (k := Sum.inl i) h, k⟩
theorem q_dNInI {kvs : List (Key × V)} (h : H a = some (.dK kvs)) (k : Q (.bl (!(valV kvs (.inl i)).isSome)) H) : dNInK Q (.int i) (.ref a) H := ⟨a, _, rfl, DGet.k (k := Sum.inl i) h, k⟩
def dGetK (Q : VK) (x : V) : VK := fun y H2 => ∃ a v, x = .ref a ∧ DGet H2 a y (some v) ∧ Q v H2
theorem q_tDGet {ty td : TE} (h : td σ H fun x H1 => ty σ H1 (dGetK Q x)) : tDGet td ty σ H Q := h
theorem q_dGetS {kvs : List (Key × V)} {s : Str} (h : H a = some (.dK kvs)) (e : valV kvs (.inr s) = some v) (k : Q v H) : dGetK Q (.ref a) (.str s) H := ⟨a, v, rfl, by rw [← e]; exact DGet.k (k := Sum.inr s) h, k⟩
theorem q_dGetI {kvs : List (Key × V)} (h : H a = some (.dK kvs)) (e : valV kvs (.inl i) = some v) (k : Q v H) : dGetK Q (.ref a) (.int i) H := ⟨a, v, rfl, by rw [← e]; exact DGet.k (k := Sum.inl i) h, k⟩
theorem q_dNew (k : ∀ p, H p = none → Q (.ref p) (upd H p (.dK []))) : tDNewK σ H Q := k
def dPutK (D : Ends) (σ : L2.St) (v x : V) : VK := fun y H3 => ∃ a H4, x = .ref a ∧ DPut H3 a y v H4 ∧ D.nx σ H4
theorem q_sDPut {td ty tv : TE} (h : tv σ H fun v H1 => td σ H1 fun x H2 => ty σ H2 (dPutK D σ v x)) : sDPut td ty tv D σ H := h
theorem q_dPutS {kvs : List (Key × V)} {s : Str} (h : H a = some (.dK kvs)) (hl : kvs.length < sizeLine) (k : D.nx σ (upd H a (.dK (putK kvs (.inr s) v)))) : dPutK D σ v (.ref a) (.str s) H := ⟨a, _, rfl, DPut.k (k := Sum.inr s) h hl, k⟩
theorem q_dPutI {kvs : List (Key × V)} (h : H a = some (.dK kvs)) (hl : kvs.length < sizeLine) (k : D.nx σ (upd H a (.dK (putK kvs (.inl i) v)))) : dPutK D σ v (.ref a) (.int i) H := ⟨a, _, rfl, DPut.k (k := Sum.inl i) h hl, k⟩
def truK (K : PySem.W.Frag) (R : Bool → Hp → Prop) : VK := fun x H' => ∃ k, TruV K x H' k ∧ R k H'
theorem q_tru {R : Bool → Hp → Prop} (h : te σ H (truK K R)) : (fun (σ : L2.St) (H : Hp) (Q : Bool → Hp → Prop) => te σ H fun x H' => ∃ k, TruV K x H' k ∧ Q k H') σ H R := h
theorem q_isBl {c d : Bool} (k : Q (.bl (decide (c = d))) H) : rIsB (.bl c) (.bl d) H Q := ⟨c, d, rfl, rfl, k⟩
theorem q_notBl {c d : Bool} (k : Q (.bl (!decide (c = d))) H) : rNotB (.bl c) (.bl d) H Q := ⟨c, d, rfl, rfl, k⟩
theorem q_inT (h : SqT K H p xs) (hx : flatV x = true) (ha : xs.all flatV = true) (k : Q (.bl (inV x xs)) H) : rIn K false x (.ref p) H Q := ⟨p, xs, rfl, .inr h, hx, ha, k⟩
theorem q_inL (h : SqL K H p xs) (hx : flatV x = true) (ha : xs.all flatV = true) (k : Q (.bl (inV x xs)) H) : rIn K false x (.ref p) H Q := ⟨p, xs, rfl, .inl h, hx, ha, k⟩
theorem q_eqD {d e : PyData} (hd : Dp K H x d) (he : Dp K H y e) (s1 : SeqAt.shaped d = true) (s2 : SeqAt.shaped e = true) (k : Q (.bl (PyData.eqv d e)) H) : rEqD K x y H Q := ⟨d, e, hd, he, s1, s2, k⟩
theorem q_neD {d e : PyData} (hd : Dp K H x d) (he : Dp K H y e) (s1 : SeqAt.shaped d = true) (s2 : SeqAt.shaped e = true) (k : Q (.bl (!PyData.eqv d e)) H) : rNeD K x y H Q := ⟨d, e, hd, he, s1, s2, k⟩
theorem q_catA (h1 : H a = some (.tup xs)) (h2 : H b = some (.tup ys)) (hl : xs.length + ys.length ≤ sizeLine) (k : ∀ p H', Same H H' → H' p = some (.tup (xs ++ ys)) → Q (.ref p) H') : rCatA K (.ref a) (.ref b) H Q := by
  refine ⟨a, b, xs, ys, rfl, rfl, sqT h1, sqT h2, hl, fun e => ?_, fun _ e => ?_, fun _ _ p hp => k p _ (Same.new (Same.refl _) hp) upd_same⟩
  · subst e; exact k b H (Same.refl _) h2
  · subst e; exact k a H (Same.refl _) (by rw [List.append_nil]; exact h1)
theorem q_slA {lo hi : Option Int} (h : H a = some (.tup xs)) (k : ∀ p H', Same H H' → H' p = some (.tup (cutV xs lo hi)) → Q (.ref p) H') : rSlA K (.ref a) lo hi H Q := by
  refine ⟨a, xs, rfl, sqT h, fun e => ?_, fun _ p hp => k p _ (Same.new (Same.refl _) hp) upd_same⟩
  refine k a H (Same.refl _) ?_
  unfold cutV
  rw [e.1, e.2, List.drop_zero, Nat.sub_zero, List.take_length]
  exact h
theorem cut_take {n : Nat} (hn : n ≤ xs.length) : cutV xs none (some (n : Int)) = xs.take n := by
  unfold cutV
  rw [HT.sIx_none, show HT.sIx xs.length xs.length (some (n : Int)) = min n xs.length from HT.sIx_nat xs.length xs.length n, Nat.min_eq_left hn, List.drop_zero, Nat.sub_zero]
theorem cut_drop {n : Nat} (hn : n ≤ xs.length) : cutV xs (some (n : Int)) none = xs.drop n := by
  unfold cutV
  rw [HT.sIx_none, show HT.sIx xs.length 0 (some (n : Int)) = min n xs.length from HT.sIx_nat xs.length 0 n, Nat.min_eq_left hn]
  exact List.take_of_length_le (by rw [List.length_drop]; exact Nat.le_refl _)
theorem q_sl {r : V → Option Int → Option Int → Hp → VK → Prop} {tl th : TO} (h : te σ H fun x H1 => tl σ H1 fun l H2 => th σ H2 fun u H3 => r x l u H3 Q) : tSl r te tl th σ H Q := h
theorem q_noPart {R : Option Int → Hp → Prop} (k : R none H) : tNoPart σ H R := k
def partK (R : Option Int → Hp → Prop) : VK := fun x H1 => ∃ i, x = .int i ∧ R (some i) H1
theorem q_part {R : Option Int → Hp → Prop} (h : te σ H (partK R)) : tPart te σ H R := h
theorem q_partK {R : Option Int → Hp → Prop} (k : R (some i) H) : partK R (.int i) H := ⟨i, rfl, k⟩
/-! a text times a number -/
def repS (s : Str) (n : Int) : Str := ⟨(List.replicate n.toNat s.cps).foldl (· ++ ·) #[]⟩
def mulOk (s : Str) (n : Int) : Bool := decide (2 ≤ n) && decide (n ≤ 1000) && decide (s.length = 1) && decide ((repS s n).length ≤ 1000)
def rMulStr : R2 := fun x y H Q => ∃ s n, x = .str s ∧ y = .int n ∧ mulOk s n = true ∧ Q (.str (repS s n)) H
theorem oq_mulStr {X : Cx} : OpR X (binaryOp .Mult) rMulStr := by
  intro pins s σ H x y v u Q I rx ry h
  obtain ⟨z, n, rfl, rfl, hm, q⟩ := h
  obtain ⟨t, rfl⟩ := rx
  obtain ⟨t', rfl⟩ := ry
  unfold mulOk at hm
  simp only [Bool.and_eq_true, decide_eq_true_eq] at hm
  obtain ⟨⟨⟨h1, h2⟩, h3⟩, h4⟩ := hm
  have e1 : (n == 1 || z.length == 0) = false := by
    rw [h3]
    have : (n == 1) = false := beq_eq_false_iff_ne.mpr (by omega)
    rw [this]
    rfl
  refine PySem.P.mul_str ?_ (fun _ _ => ?_) (fun _ _ => ?_) ?_
  · rw [decide_eq_false (show ¬ n < -(2 ^ 63) by omega), decide_eq_false (show ¬ n ≥ 2 ^ 63 by omega)]
    rfl
  · rw [h3]
    have : (1 : Int) ≤ (2 ^ 63 - 1) / n := Int.le_ediv_of_mul_le (by omega) (by omega)
    exact Int.not_lt.mpr this
  · rw [h3, Nat.one_mul]
    exact decide_eq_false (by
      have : sizeLine = 16777216 := sizeLine_eq
      omega)
  · rw [if_neg (show ¬ n < 1 by omega), if_neg (by rw [e1]; exact Bool.false_ne_true)]
    exact ⟨Nat.le_trans h4 (by decide), .str (repS z n), H, I.tok _, ⟨_, rfl⟩, q⟩
theorem q_mulStr {s : Str} (hm : mulOk s i = true) (k : Q (.str (repS s i)) H) : rMulStr (.str s) (.int i) H Q := ⟨s, i, rfl, rfl, hm, k⟩
/-! methods of lists -/
def bmK (K : PySem.W.Frag) (T : String) (r : V → List V → Hp → VK → Prop) (t : TA) (σ : L2.St) (Q : VK) : VK := fun x H1 => tyV K T x H1 ∧ t σ H1 fun xs H2 => r x xs H2 Q
def bmK0 (K : PySem.W.Frag) (T : String) (r : V → List V → Hp → VK → Prop) (Q : VK) : VK := fun x H1 => tyV K T x H1 ∧ r x [] H1 Q
theorem q_bm {T : String} {r : V → List V → Hp → VK → Prop} (h : te σ H (bmK K T r tr σ Q)) : tBM K T r te tr σ H Q := h
theorem q_bm0 {T : String} {r : V → List V → Hp → VK → Prop} (h : te σ H (bmK0 K T r Q)) : tBM0 K T r te σ H Q := h
theorem q_bmL {r : V → List V → Hp → VK → Prop} (h : H l = some (.lst xs)) (k : tr σ H fun vs H2 => r (.ref l) vs H2 Q) : bmK K "list" r tr σ Q (.ref l) H := ⟨.inl ⟨rfl, xs, sqL h⟩, k⟩
theorem q_bmL0 {r : V → List V → Hp → VK → Prop} (h : H l = some (.lst xs)) (k : r (.ref l) [] H Q) : bmK0 K "list" r Q (.ref l) H := ⟨.inl ⟨rfl, xs, sqL h⟩, k⟩
theorem q_append (h : H l = some (.lst xs)) (hl : xs.length < sizeLine) (k : Q .non (upd H l (.lst (xs ++ [y])))) : rAppend (.ref l) [y] H Q := ⟨l, xs, y, rfl, rfl, h, hl, k⟩
theorem q_popAt {n : Nat} (h : H l = some (.lst xs)) (e : i = (n : Int)) (hn : n < xs.length) (hb : i < 2 ^ 63) (hv : xs[n]? = some v) (k : Q v (upd H l (.lst (xs.eraseIdx n)))) : rPopAt (.ref l) [.int i] H Q := by
  refine ⟨l, xs, i, n, v, rfl, rfl, h, by omega, hb, ?_, hv, k⟩
  subst e
  unfold seqIndex?
  have h1 : ¬ ((n : Int) < 0) := by omega
  have h2 : (n : Int) < (xs.length : Int) := by omega
  have h3 : (0 : Int) ≤ (n : Int) := by omega
  simp [h1, h2, h3]
/-! a walk over a list or a tuple -/
theorem pi_or {X : Cx} {tg e : Expr} {w1 w2 : TI} (h1 : PI X tg e w1) (h2 : PI X tg e w2) : PI X tg e (fun σ H R => w1 σ H R ∨ w2 σ H R) :=
  ⟨fun pins s σ H R I h => h.elim (h1.run pins s σ H R I) (h2.run pins s σ H R I)⟩
def iSeq (K : PySem.W.Frag) (te : TE) : TI := fun σ H R => iList K te σ H R ∨ iTup K te σ H R
theorem pi_seq {X : Cx} {tg e : Expr} {te : TE} (h : PE X e te) : PI X tg e (iSeq X.K te) := pi_or (pi_list h) (pi_tup h)
theorem q_iSeqL {R : It → Hp → Prop} (h : te σ H fun x H1 => ∃ a, x = .ref a ∧ (∃ xs, SqL K H1 a xs) ∧ R (Itl K a) H1) : iSeq K te σ H R := .inl h
theorem q_iSeqT {R : It → Hp → Prop} (h : te σ H fun x H1 => ∃ a, x = .ref a ∧ (∃ xs, SqT K H1 a xs) ∧ R (Itt K a) H1) : iSeq K te σ H R := .inr h
/-! a written dict -/
def pairsK (σ : L2.St) (r : List (TE × TE)) (x : V) (Q : List (V × V) → Hp → Prop) : VK := fun y H2 => tPairs r σ H2 fun ps H3 => Q ((x, y) :: ps) H3
theorem q_pairC {tk tv : TE} {r : List (TE × TE)} {R : List (V × V) → Hp → Prop} (h : tk σ H fun x H1 => tv σ H1 (pairsK σ r x R)) : tPairs ((tk, tv) :: r) σ H R := h
theorem q_pairsK {r : List (TE × TE)} {R : List (V × V) → Hp → Prop} (h : tPairs r σ H fun ps H3 => R ((x, y) :: ps) H3) : pairsK σ r x R y H := h
theorem q_pairN {R : List (V × V) → Hp → Prop} (h : R [] H) : tPairs [] σ H R := h
def dispK (Q : VK) (p : Addr) : List (V × V) → Hp → Prop := fun ps H2 => H2 p = some (.dK []) ∧ ∃ kvs : List (Key × V), ps = kvs.map (fun kv => (kV kv.1, kv.2)) ∧ kvs.length ≤ 15 ∧ Q (.ref p) (upd H2 p (.dK (mergeK [] kvs)))
theorem q_disp {trs : List (TE × TE)} (k : ∀ p, H p = none → tPairs trs σ (upd H p (.dK [])) (dispK Q p)) : tDisp trs σ H Q := k
theorem valV_cons {κ : Type} [DecidableEq κ] {kvs : List (κ × V)} {k k' : κ} {v : V} : valV ((k, v) :: kvs) k' = if k = k' then some v else valV kvs k' := by
  unfold valV
  rw [List.find?_cons]
  by_cases e : k = k'
  · rw [if_pos e, decide_eq_true e]; rfl
  · rw [if_neg e, decide_eq_false e]
theorem valV_nomem {κ : Type} [DecidableEq κ] {kvs : List (κ × V)} {k : κ} (h : k ∉ kvs.map (·.1)) : valV kvs k = none := by
  cases q : valV kvs k with
  | none => rfl
  | some v => exact absurd (valV_in q) h
theorem merge_app : ∀ (kvs acc : List (Key × V)), ((acc ++ kvs).map (·.1)).Nodup → mergeK acc kvs = acc ++ kvs
  | [], acc, _ => by rw [List.append_nil]; rfl
  | (k, v) :: r, acc, h => by
    have hk : k ∉ acc.map (·.1) := by
      rw [List.map_append] at h
      intro m
      exact (List.nodup_append.mp h).2.2 k m k (by simp) rfl
    show mergeK (putK acc k v) r = _
    rw [putK_new v (valV_nomem hk), merge_app r (acc ++ [(k, v)]) (by rw [List.append_assoc]; exact h), List.append_assoc]
    rfl
theorem q_dispK {kvs : List (Key × V)} {ps : List (V × V)} (h : H p = some (.dK [])) (e : ps = kvs.map (fun kv => (kV kv.1, kv.2))) (hl : kvs.length ≤ 15) (hn : (kvs.map (·.1)).Nodup) (k : Q (.ref p) (upd H p (.dK kvs))) : dispK Q p ps H :=
  ⟨h, kvs, e, hl, by rw [merge_app kvs [] hn]; exact k⟩
theorem q_slL {lo hi : Option Int} (h : SqL K H a xs) (k : ∀ p, H p = none → Q (.ref p) (upd H p (.lst (cutV xs lo hi)))) : rSlL K (.ref a) lo hi H Q := ⟨a, xs, rfl, h, k⟩
/-! attributes and methods -/
def fldK (K : PySem.W.Frag) (f : Str) (Q : VK) : VK := fun x H1 => ∃ a C dx fs v, x = .ref a ∧ H1 a = some (.ins C dx fs) ∧ Cls K C ∧ NoAttr K C f ∧ fs.lookup f = some v ∧ Q v H1
theorem q_fld {f : Str} (h : te σ H (fldK K f Q)) : tFld K te f σ H Q := h
theorem q_fldK {f : Str} {C dx : Addr} {fs : List (Str × V)} (h : H a = some (.ins C dx fs)) (hc : Cls K C) (hn : NoAttr K C f) (hl : fs.lookup f = some v) (k : Q v H) : fldK K f Q (.ref a) H := ⟨a, C, dx, fs, v, rfl, h, hc, hn, hl, k⟩
def fputK (K : PySem.W.Frag) (f : Str) (D : Ends) (σ : L2.St) (y : V) : VK := fun x H2 => ∃ a C dx fs, x = .ref a ∧ H2 a = some (.ins C dx fs) ∧ Cls K C ∧ NoAttr K C f ∧ fs.length < 1000 ∧ D.nx σ (upd H2 a (.ins C dx (putF f y fs)))
theorem q_sFld {f : Str} (h : tb σ H fun y H1 => te σ H1 (fputK K f D σ y)) : sFld K te tb f D σ H := h
theorem q_fputK {f : Str} {C dx : Addr} {fs : List (Str × V)} (h : H a = some (.ins C dx fs)) (hc : Cls K C) (hn : NoAttr K C f) (hl : fs.length < 1000) (k : D.nx σ (upd H a (.ins C dx (putF f y fs)))) : fputK K f D σ y (.ref a) H := ⟨a, C, dx, fs, rfl, h, hc, hn, hl, k⟩
def methK (m : Str) (C : Addr) (sp : Sp) (dvs : List V) (E : XK) (tr : TA) (σ : L2.St) (Q : VK) : VK := fun x H1 => ∃ a dx fs, x = .ref a ∧ H1 a = some (.ins C dx fs) ∧ fs.lookup m = none ∧ tr σ H1 fun vs H2 => sp (x :: (vs ++ dvs)) H2 Q E
theorem q_meth {m : Str} {C : Addr} {sp : Sp} {dvs : List V} {E : XK} (h : te σ H (methK m C sp dvs E tr σ Q)) : tMeth C m sp dvs E te tr σ H Q := h
def selfK (sp : Sp) (x : V) (E : XK) (Q : VK) : List V → Hp → Prop := fun vs H2 => sp (x :: vs) H2 Q E
theorem q_methK {m : Str} {C dx : Addr} {sp : Sp} {E : XK} {fs : List (Str × V)} (h : H a = some (.ins C dx fs)) (hn : fs.lookup m = none) (k : ∀ (R : List V → Hp → Prop), (∀ vs H2, sp (.ref a :: vs) H2 Q E → R vs H2) → tr σ H R) : methK m C sp [] E tr σ Q (.ref a) H :=
  ⟨a, dx, fs, rfl, h, hn, k _ fun vs H2 q => by rw [List.append_nil]; exact q⟩
theorem q_fldlen {f : Str} {fs : List (Str × V)} {y : V} {n : Nat} (h : fs.length ≤ n) : (putF f y fs).length ≤ n + 1 := by
  induction fs generalizing n with
  | nil => exact Nat.succ_le_succ (Nat.zero_le _)
  | cons p r ih =>
    obtain ⟨g, x⟩ := p
    show (if g = f then (g, y) :: r else (g, x) :: putF f y r).length ≤ n + 1
    by_cases e : g = f
    · rw [if_pos e]; exact Nat.le_succ_of_le h
    · rw [if_neg e]
      cases n with
      | zero => exact absurd h (by simp)
      | succ n => exact Nat.succ_le_succ (ih (Nat.le_of_succ_le_succ h))
theorem q_never {σ : L2.St} (h : False) : tNever D σ H := h
def mkK (C : Addr) (n m : Nat) (sp : Sp) (gV : List V → List V → List V) (E : XK) (vs : List V) (Q : VK) : List V → Hp → Prop := fun zs H2 => vs.length = n ∧ zs.length = m ∧ ∀ x dx, H2 x = none → H2 dx = none → dx ≠ x →
  sp (gV (.ref x :: vs) zs) (upd (upd H2 dx (.own x)) x (.ins C dx [])) (fun v H3 => v = .non ∧ Q (.ref x) H3) E
theorem q_makeK {C : Addr} {n m : Nat} {sp : Sp} {gV : List V → List V → List V} {E : XK} {tk : TA} (h : tr σ H fun vs H1 => tk σ H1 (mkK C n m sp gV E vs Q)) : tMakeK C n m sp gV E tr tk σ H Q := h
/-! comprehensions -/
def lcK (g : TG) (tt : TT) (te : TE) (vs : List Nat) (σ : L2.St) (Q : VK) : It → Hp → Prop := fun J H1 => ∀ D, H1 D = none → ∃ W : Nat → Nat → Hp → Prop, (∃ m, W 0 m (upd H1 D (.lst []))) ∧ ∀ i m H, W i m H →
  (J.stop i H ∧ Q (.ref D) H) ∨ (J.go i H ∧ ∃ Nx : Hp → Prop, (∀ H', Nx H' → ∃ m', m' < m ∧ W (i + 1) m' H') ∧ ∀ x H', J.yld i H x H' → g x (wipe σ vs) H' fun σ2 H2 => wipe σ2 vs = wipe σ vs ∧ tt σ2 H2 fun b H3 =>
    if b = true then te σ2 H3 fun y H4 => ∃ acc, H4 D = some (.lst acc) ∧ acc.length < sizeLine ∧ Nx (upd H4 D (.lst (acc ++ [y]))) else Nx H3)
theorem q_lc {wi : TI} {vs : List Nat} (h : wi σ H (lcK g tt te vs σ Q)) : tLc wi g tt te vs σ H Q := h
def keepK (te : TE) (σ : L2.St) (D : Addr) (Nx : Hp → Prop) : Bool → Hp → Prop := fun b H3 => if b = true then te σ H3 fun y H4 => ∃ acc, H4 D = some (.lst acc) ∧ acc.length < sizeLine ∧ Nx (upd H4 D (.lst (acc ++ [y]))) else Nx H3
def accK (D : Addr) (Nx : Hp → Prop) : VK := fun y H4 => ∃ acc, H4 D = some (.lst acc) ∧ acc.length < sizeLine ∧ Nx (upd H4 D (.lst (acc ++ [y])))
theorem q_keepT {Nx : Hp → Prop} (h : te σ H (accK l Nx)) : keepK te σ l Nx true H := iteT h
theorem q_keepF {Nx : Hp → Prop} (h : Nx H) : keepK te σ l Nx false H := iteF h
theorem q_keep2 {Nx : Hp → Prop} {c : Bool} (h : c = true → te σ H (accK l Nx)) (h2 : c = false → Nx H) : keepK te σ l Nx c H := by
  cases c with
  | true => exact iteT (h rfl)
  | false => exact iteF (h2 rfl)
theorem q_accK {Nx : Hp → Prop} (h : H l = some (.lst xs)) (hl : xs.length < sizeLine) (k : Nx (upd H l (.lst (xs ++ [y])))) : accK l Nx y H := ⟨xs, h, hl, k⟩
theorem q_lcL {S : List V} {vs : List Nat} (h : SqL K H a S) (k : ∀ D, H D = none → ∃ Pv : Nat → Hp → Prop, Pv 0 (upd H D (.lst [])) ∧ (∀ i H, i ≤ S.length → Pv i H → SqL K H a S) ∧
      (∀ i x H, S[i]? = some x → Pv i H → g x (wipe σ vs) H fun σ2 H2 => wipe σ2 vs = wipe σ vs ∧ tt σ2 H2 (keepK te σ2 D (Pv (i + 1)))) ∧ ∀ H, Pv S.length H → Q (.ref D) H) :
    ∃ b, V.ref a = .ref b ∧ (∃ xs, SqL K H b xs) ∧ lcK g tt te vs σ Q (Itl K b) H := ⟨a, rfl, ⟨S, h⟩, fun D hD => by
      obtain ⟨Pv, h0, hl, hs, hd⟩ := k D hD
      exact lc_list Pv h0 hl hs hd⟩
theorem q_lcT {S : List V} {vs : List Nat} (h : SqT K H a S) (k : ∀ D, H D = none → ∃ Pv : Nat → Hp → Prop, Pv 0 (upd H D (.lst [])) ∧ (∀ i H, i ≤ S.length → Pv i H → SqT K H a S) ∧
      (∀ i x H, S[i]? = some x → Pv i H → g x (wipe σ vs) H fun σ2 H2 => wipe σ2 vs = wipe σ vs ∧ tt σ2 H2 (keepK te σ2 D (Pv (i + 1)))) ∧ ∀ H, Pv S.length H → Q (.ref D) H) :
    ∃ b, V.ref a = .ref b ∧ (∃ xs, SqT K H b xs) ∧ lcK g tt te vs σ Q (Itt K b) H := ⟨a, rfl, ⟨S, h⟩, fun D hD => by
      obtain ⟨Pv, h0, hl, hs, hd⟩ := k D hD
      exact lc_tup Pv h0 hl hs hd⟩
theorem q_lcR {vs : List Nat} (hj : 0 ≤ j ∧ j < 1000000000000000) (k : ∀ D, H D = none → ∃ Pv : Nat → Hp → Prop, Pv 0 (upd H D (.lst [])) ∧
      (∀ (i : Nat) H, (i : Int) < j → Pv i H → g (.int i) (wipe σ vs) H fun σ2 H2 => wipe σ2 vs = wipe σ vs ∧ tt σ2 H2 (keepK te σ2 D (Pv (i + 1)))) ∧ ∀ H, Pv j.toNat H → Q (.ref D) H) :
    rg1K (lcK g tt te vs σ Q) [.int j] H := ⟨j, rfl, by omega, by omega, fun D hD => by
      obtain ⟨Pv, h0, hs, hd⟩ := k D hD
      refine lc_range Pv h0 (fun i H hi hp => ?_) hd
      have e : (0 : Int) + (i : Int) = (i : Int) := Int.zero_add _
      rw [e]
      exact hs i H (by omega) hp⟩
end

/-! get and setdefault of a dict -/
section
variable {H : Hp} {σ : L2.St} {Q : VK} {td ty tx : TE} {a : Addr} {z v : V}
def dG2K (Q : VK) (a : Addr) (y : V) : VK := fun z H3 => ∃ o, DGet H3 a y o ∧ Q (o.getD z) H3
def dG2a (ty tx : TE) (σ : L2.St) (Q : VK) : VK := fun x H1 => ∃ a, x = .ref a ∧ IsD H1 a ∧ ty σ H1 fun y H2 => tx σ H2 (dG2K Q a y)
theorem q_tDGet2 (h : td σ H (dG2a ty tx σ Q)) : tDGet2 td ty tx σ H Q := h
theorem q_dG2a {kvs : List (Key × V)} (h : H a = some (.dK kvs)) (k : ty σ H fun y H2 => tx σ H2 (dG2K Q a y)) : dG2a ty tx σ Q (.ref a) H := ⟨a, rfl, .inl ⟨kvs, .inl h⟩, k⟩
theorem q_dG2S {kvs : List (Key × V)} {s : Str} (h : H a = some (.dK kvs)) (k : Q ((valV kvs (.inr s)).getD z) H) : dG2K Q a (.str s) z H := ⟨_, DGet.k (k := Sum.inr s) h, k⟩
theorem q_dG2I {kvs : List (Key × V)} {i : Int} (h : H a = some (.dK kvs)) (k : Q ((valV kvs (.inl i)).getD z) H) : dG2K Q a (.int i) z H := ⟨_, DGet.k (k := Sum.inl i) h, k⟩
def dSdK (Q : VK) (a : Addr) (y : V) : VK := fun z H3 => ∃ (kvs : List (Key × V)) (k : Key), H3 a = some (.dK kvs) ∧ y = kV k ∧ kvs.length < sizeLine ∧ (∀ v, valV kvs k = some v → Q v H3) ∧ (valV kvs k = none → Q z (upd H3 a (.dK (putK kvs k z))))
def dSda (ty tx : TE) (σ : L2.St) (Q : VK) : VK := fun x H1 => ∃ a, x = .ref a ∧ IsD H1 a ∧ ty σ H1 fun y H2 => tx σ H2 (dSdK Q a y)
theorem q_tDSetd (h : td σ H (dSda ty tx σ Q)) : tDSetd td ty tx σ H Q := h
theorem q_dSda {kvs : List (Key × V)} (h : H a = some (.dK kvs)) (k : ty σ H fun y H2 => tx σ H2 (dSdK Q a y)) : dSda ty tx σ Q (.ref a) H := ⟨a, rfl, .inl ⟨kvs, .inl h⟩, k⟩
theorem q_dSdS {kvs : List (Key × V)} {s : Str} (h : H a = some (.dK kvs)) (hl : kvs.length < sizeLine) (k1 : ∀ v, valV kvs (.inr s) = some v → Q v H) (k2 : valV kvs (.inr s) = none → Q z (upd H a (.dK (putK kvs (.inr s) z)))) : dSdK Q a (.str s) z H := ⟨kvs, .inr s, h, rfl, hl, k1, k2⟩
end

/-! methods that may raise within a try; the suite of one class; del of an item; a text times 1 -/
section
variable {K : PySem.W.Frag} {σ : L2.St} {H : Hp} {Q : VK} {D : Ends} {l : Addr} {xs : List V} {i : Int} {to ti : TE}
def delK (D : Ends) (σ : L2.St) (x : V) : VK := fun y H2 => ∃ (l : Addr) (xs : List V) (i : Int) (k : Nat), x = .ref l ∧ y = .int i ∧ H2 l = some (.lst xs) ∧ -(2 ^ 63) ≤ i ∧ i < 2 ^ 63 ∧ seqIndex? i xs.length = some k ∧ D.nx σ (upd H2 l (.lst (xs.eraseIdx k)))
theorem q_delL (h : to σ H fun x H1 => ti σ H1 (delK D σ x)) : tDelL to ti D σ H := h
theorem seqIx {n m : Nat} (h : n < m) : seqIndex? (n : Int) m = some n := by
  unfold seqIndex?
  have h1 : ¬ ((n : Int) < 0) := by omega
  have h2 : (n : Int) < (m : Int) := by omega
  have h3 : (0 : Int) ≤ (n : Int) := by omega
  simp [h1, h2, h3]
theorem q_delK {n : Nat} (h : H l = some (.lst xs)) (e : i = (n : Int)) (hn : n < xs.length) (hb : i < 2 ^ 63) (k : D.nx σ (upd H l (.lst (xs.eraseIdx n)))) : delK D σ (.ref l) (.int i) H :=
  ⟨l, xs, i, n, rfl, rfl, h, by omega, hb, by rw [e]; exact seqIx hn, k⟩
def rMulStr1 : R2 := fun x y H Q => ∃ s, x = .str s ∧ y = .int 1 ∧ Q (.str s) H
theorem oq_mulStr1 {X : Cx} : OpR X (binaryOp .Mult) rMulStr1 := by
  intro pins s σ H x y v u Q I rx ry h
  obtain ⟨z, rfl, rfl, q⟩ := h
  obtain ⟨t, rfl⟩ := rx
  obtain ⟨t', rfl⟩ := ry
  refine PySem.P.mul_str (by decide) (fun _ h => by cases h) (fun _ h => by cases h) ?_
  rw [if_neg (show ¬ (1 : Int) < 1 by omega), if_pos (by rfl)]
  exact ⟨.str z, H, I, ⟨_, rfl⟩, q⟩
theorem q_mulStr1 {s : Str} (k : Q (.str s) H) : rMulStr1 (.str s) (.int 1) H Q := ⟨s, rfl, rfl, k⟩
theorem q_int1b {c : Bool} (k : Q (.int (if c then 1 else 0)) H) : rInt1 [.bl c] H Q := .inr ⟨c, rfl, k⟩
theorem q_int1t (k : Q (.int 1) H) : rInt1 [.bl true] H Q := .inr ⟨true, rfl, k⟩
theorem q_neB {c d : Bool} (k : Q (.bl (c != d)) H) : rNe (.bl c) (.bl d) H Q := ⟨rfl, by
  have e : (!decide (V.bl c = V.bl d)) = (c != d) := by cases c <;> cases d <;> rfl
  rw [e]; exact k⟩
theorem q_neBs {c : Bool} (k : Q (.bl false) H) : rNe (.bl c) (.bl c) H Q := q_neB (by rw [bne_self_eq_false]; exact k)
def tMethA (C : Addr) (m : Str) (sp : Sp) (E : L2.St → XK) (ta : TE) (t : TA) : TE := fun σ H Q => ta σ H fun x H1 => ∃ a dx fs, x = .ref a ∧ H1 a = some (.ins C dx fs) ∧ fs.lookup m = none ∧ t σ H1 fun vs H2 => sp (x :: vs) H2 Q (E σ)
def methAK (C : Addr) (m : Str) (sp : Sp) (E : L2.St → XK) (t : TA) (σ : L2.St) (Q : VK) : VK := fun x H1 => ∃ a dx fs, x = .ref a ∧ H1 a = some (.ins C dx fs) ∧ fs.lookup m = none ∧ t σ H1 fun vs H2 => sp (x :: vs) H2 Q (E σ)
theorem q_methA {C : Addr} {m : Str} {sp : Sp} {E : L2.St → XK} {ta : TE} {t : TA} (h : ta σ H (methAK C m sp E t σ Q)) : tMethA C m sp E ta t σ H Q := h
theorem q_methAK {C dx a : Addr} {m : Str} {sp : Sp} {E : L2.St → XK} {t : TA} {fs : List (Str × V)} (h : H a = some (.ins C dx fs)) (hn : fs.lookup m = none) (k : t σ H fun vs H2 => sp (.ref a :: vs) H2 Q (E σ)) : methAK C m sp E t σ Q (.ref a) H := ⟨a, dx, fs, rfl, h, hn, k⟩
theorem q_callS {sp : Sp} {E : L2.St → XK} {t : TA} (h : t σ H fun vs H1 => sp vs H1 Q (E σ)) : tCallS sp E t σ H Q := h
theorem q_isE {D a C : Addr} {b : Bool} (e : PySem.W.kitOne K (.ref D) (.ref C) = some b) (k : Q (.bl b) H) : rIsE K D a [.ref a, .ref C] H Q := ⟨.ref C, .ref C, b, rfl, fun _ r => r, e, k⟩
end
section
variable {X : Cx} {CX : CXT} {k : Nat} {f C : Addr} {fd : FuncData} {ps : List Str} {sp : Sp} {E : L2.St → XK} {m : Str} {pos apos : Pos} {e o : Expr} {es : List Expr} {ta : TE} {t : TA}
theorem pe_methA {pl : Sem Bool} (he : PE X o ta) (c : Cls X.K C) (hm : Meth X.K C m f) (F : FnOk X.prog X.w X.K X.mg X.base CX k f fd ps sp) (hr : Room k X.A) (hb : Binds X.K fd ps []) (hx : ∀ σ, PassesAt CX X σ (E σ)) (ha : PA X (e :: es) t)
    (hst : starEach (e :: es) X.env = (false, eval e X.env) :: starEach es X.env := by rfl) (hpl : (backTo pos (starEach es X.env)).any (·.1) = false := by rfl)
    (ht : eval (.Call (.Attribute o m apos) (e :: es) [] pos) X.env = (do
      let ov ← eval o X.env
      standAt apos.atName
      let (f, first) ← holding [ov] (getMethod ov m pl)
      callWith pos f first (backTo pos (starEach (e :: es) X.env)) (backToKw pos (keywordEach [] X.env))) := by rfl) :
    PE X (.Call (.Attribute o m apos) (e :: es) [] pos) (tMethA C m sp E ta t) := by
  refine ⟨fun pins s σ H Q I h => ?_⟩
  refine PySem.W.methodCall_KW (pl := pl) (thn (he.run pins s σ H _ I h) fun u s1 ⟨x, H1, I1, rx, a, dx, fs, ex, ea, l, q⟩ => ?_) ht
  subst ex
  obtain rfl : u = Value.ref a := rx
  refine getmeth_ok I1 ea c hm l ?_
  refine PySem.W.callWith_K (first := [.ref a]) (h₀ := X.base) I.ok.mod.kin hm.kp (thn (ha.run pos pins s1 σ H1 _ I1 q) fun us s2 ⟨vs, H2, I2, r, q2⟩ => ⟨I2.kIn, ?_⟩) hst hpl
  exact run_fnS (us := .ref a :: us) (vs := .ref a :: vs) F hr hb (hx σ) I2 (.cons rfl r) q2
theorem pss_cls {oe : Obj} {cls : Value} {d : Option Addr} {b : List Stmt} {t : TS} (hz : Zc cls d oe) (h : Zc (.ref C) none oe → PSs X b t) : PSs X b (fun D σ H => (cls = .ref C ∧ d = none) ∧ t D σ H) :=
  ⟨fun pins s σ H D I q => (h (by obtain ⟨⟨e1, e2⟩, _⟩ := q; rw [e1, e2] at hz; exact hz)).run pins s σ H D I q.2⟩
end

/-! the sum of a dict's values; dicts keyed by tuples -/
section
variable {X : Cx} {o : Expr} {p pos apos mpos : Pos} {td : TE}
def tSumVals (td : TE) : TE := fun σ H Q => td σ H fun x H1 => ∃ (a : Addr) (kvs : List (Key × V)) (is : List Int), x = V.ref a ∧ H1 a = some (.dK kvs) ∧ kvs.map (·.2) = is.map V.int ∧ Q (.int is.sum) H1
theorem pre_sum (is : List Int) : ∀ n, n ≤ is.length → preSum (fun i => is.getD i 0) n = (is.take n).sum
  | 0, _ => by simp [preSum]
  | n + 1, h => by
    rw [preSum, pre_sum is n (by omega), List.take_add_one, List.sum_append, List.getElem?_eq_getElem (by omega), List.getD_eq_getElem?_getD, List.getElem?_eq_getElem (by omega)]
    simp
theorem pe_sumVals (hc : X.calm = true) (hg : Gl X "sum") (hm : X.mg "sum" = none) (hd : PE X o td) (hbase : attributeBase o "values" X.env (eval o X.env) = eval o X.env := by rfl) (hline : (apos.endLine == mpos.line) = true := by rfl)
    (hse : starEach [Expr.Call (.Attribute o "values" apos) [] [] mpos] X.env = [(false, eval (Expr.Call (.Attribute o "values" apos) [] [] mpos) X.env)] := by rfl) :
    PE X (.Call (.Name "sum" p) [.Call (.Attribute o "values" apos) [] [] mpos] [] pos) (tSumVals td) := by
  refine ⟨fun pins s σ H Q I h => ?_⟩
  refine wpAny_Call_Name_kw (ld_blt I hg hm (u := .builtin "sum") (by first | rfl | decide +kernel) ?_ (by first | decide +kernel | decide) (by first | decide +kernel | decide))
  rw [hse]
  refine PySem.callWith_builtin1 (wpAny_Call_method0_late hbase hline (thn (hd.run pins s σ H _ I h) fun v s1 ⟨x, H1, I1, r1, a, kvs, is, ex, ha, hv, q⟩ => ?_))
  subst ex
  obtain rfl : v = Value.ref a := r1
  obtain ⟨_, hsys, vs, rel, dof⟩ := dk_of I1.hok ha
  obtain ⟨ep, dat⟩ := dof.dictAt
  have dat' := dat
  obtain ⟨ob, es, ho, ex, hdat, hko, hpr, hnd⟩ := dat'
  refine ⟨"dict", "dict.values", PySem.F.plainAttrs_dict, PySem.F.slot_dict_values, PySem.F.type_dict_values, ⟨ob, ho, ex.1⟩, fun b e => ?_, Calls.callWith_builtin rfl (PySem.evalArgs_none ?_)⟩
  · cases e
    exact ⟨ob, ho, ex.2.1⟩
  refine call_meetsIn PySem.F.slot_dict_values ⟨ob, ho, ex.1⟩ PySem.F.entry_dict_values (PySem.F.args_dict_values_1 _) (meets_dict_values (mixKind X.prog X.w) a hsys) ⟨⟨vs, dof⟩, ?_⟩
  have k1 : ∀ b u, s1.heap.get? b = some u → (s1.heap.push { cls := .type "dict_values", data := .fields #[.ref a] }).get? b = some u := fun b u e => Heap.get?_push_of_some _ e
  have dat1 : (s1.heap.push { cls := .type "dict_values", data := .fields #[.ref a] }).DictAt (mixKind X.prog X.w) a vs ep := dat.keep k1
  have hlv : vs.length = is.length := by
    have e1 := congrArg List.length hv
    rw [List.length_map, List.length_map] at e1
    rw [← e1]
    exact (KV.length rel).symm
  have hval : ∀ (i : Nat) (v : Value), (∃ k, vs[i]? = some (k, v)) → ∃ t, v = Value.int (is.getD i 0) t := fun i v ⟨k, hk⟩ => by
    obtain ⟨x, h1, h2⟩ := KV.at' rel hk
    have e1 : (kvs.map (·.2))[i]? = some x := by rw [List.getElem?_map, h1] <;> rfl
    rw [hv, List.getElem?_map] at e1
    obtain ⟨j, hj, e2⟩ := Option.map_eq_some_iff.mp e1
    subst e2
    obtain ⟨t, e3⟩ := h2
    refine ⟨t, ?_⟩
    rw [e3, List.getD_eq_getElem?_getD, hj] <;> rfl
  refine call_sum_walkG (wpAny_pyIter_values (v := s1.heap.objs.size) (d := a) ⟨_, Heap.get?_push_size _ rfl, rfl, rfl⟩ dat1 ?_)
  have hlt : a < s1.heap.objs.size := Heap.lt_size ho
  have hsz : (s1.heap.push { cls := .type "dict_values", data := .fields #[.ref a] }).objs.size = s1.heap.objs.size + 1 := Heap.size_push _ _
  refine ⟨_, _, _, _, _, _, fun i => is.getD i 0, rfl, Walks.dictValues (knd := mixKind X.prog X.w) (A := X.A.in1) (I.ok.hd hc) (s1.heap.push { cls := .type "dict_values", data := .fields #[.ref a] }).objs.size a (by rw [hsz]; exact Nat.ne_of_lt (Nat.lt_succ_of_lt hlt)) vs ep,
    ⟨⟨_, Heap.get?_push_size _ rfl, rfl, rfl⟩, dat1.keep fun b u e => Heap.get?_push_of_some _ e⟩, fun b hb => ?_, hval, fun h' tk t' hk => ?_⟩
  · show b < ((s1.heap.push _).push _).objs.size
    rw [Heap.size_push, Heap.size_push]
    rw [hsz] at hb
    rcases List.mem_cons.mp hb with e | hb
    · rw [e]
      exact Nat.lt_succ_self _
    · have e : b = a := List.mem_singleton.mp hb
      rw [e]
      exact Nat.lt_succ_of_lt (Nat.lt_succ_of_lt hlt)
  · refine ⟨.int is.sum, H1, I1.kept (t' := tk) fun b u e => hk b u (fun hmem => ?_) (Heap.get?_push_of_some _ (k1 b u e)), ⟨t', ?_⟩, q⟩
    · have e1 : b = (s1.heap.push { cls := .type "dict_values", data := .fields #[.ref a] }).objs.size := List.mem_singleton.mp hmem
      have e2 := Heap.lt_size e
      rw [hsz] at e1
      rw [e1] at e2
      exact absurd e2 (Nat.not_lt.mpr (Nat.le_succ _))
    · rw [pre_sum is _ (by omega), hlv, List.take_length]
end
section
variable {K : PySem.W.Frag} {σ : L2.St} {H : Hp} {Q : VK} {D : Ends} {a b : Addr} {z v : V} {ty tx td : TE} {kvs : List (List Key × V)} {k : List Key}
def sumK (Q : VK) : VK := fun x H1 => ∃ (a : Addr) (kvs : List (Key × V)) (is : List Int), x = V.ref a ∧ H1 a = some (.dK kvs) ∧ kvs.map (·.2) = is.map V.int ∧ Q (.int is.sum) H1
theorem q_sumVals (h : td σ H (sumK Q)) : tSumVals td σ H Q := h
theorem q_sumK {kvs : List (Key × V)} {is : List Int} (h : H a = some (.dK kvs)) (e : kvs.map (·.2) = is.map V.int) (q : Q (.int is.sum) H) : sumK Q (.ref a) H := ⟨a, kvs, is, rfl, h, e, q⟩
theorem q_dG2aT (h : H a = some (.dT kvs)) (q : ty σ H fun y H2 => tx σ H2 (dG2K Q a y)) : dG2a ty tx σ Q (.ref a) H := ⟨a, rfl, .inr ⟨kvs, .inl h⟩, q⟩
theorem q_dG2T (h : H a = some (.dT kvs)) (hb : H b = some (.tup (k.map kV))) (q : Q ((valV kvs k).getD z) H) : dG2K Q a (.ref b) z H := ⟨_, DGet.t h hb, q⟩
theorem q_dPutT (h : H a = some (.dT kvs)) (hb : H b = some (.tup (k.map kV))) (hl : kvs.length < sizeLine) (q : D.nx σ (upd H a (.dT (putK kvs k v)))) : dPutK D σ v (.ref a) (.ref b) H := ⟨a, _, rfl, DPut.t h hb hl, q⟩
theorem q_dNewT (q : ∀ p, H p = none → Q (.ref p) (upd H p (.dT []))) : tDNewT σ H Q := q
end

/-! dicts keyed by nested tuples -/
mutual
inductive NV (H : Hp) : NestedKey → V → Prop
  | non : NV H .none .non
  | int (i : Int) : NV H (.num i) (.int i)
  | str (x : Str) : NV H (.text x) (.str x)
  | tup {b : Addr} {vs : List V} {ks : List NestedKey} : H b = some (.tup vs) → NVs H ks vs → NV H (.tup ks) (.ref b)
inductive NVs (H : Hp) : List NestedKey → List V → Prop
  | nil : NVs H [] []
  | cons {k : NestedKey} {v : V} {ks : List NestedKey} {vs : List V} : NV H k v → NVs H ks vs → NVs H (k :: ks) (v :: vs)
end
mutual
theorem NV.is {P : Program} {w : World} {H : Hp} {h : Heap} (ok : HOk P w H h) : ∀ {k : NestedKey} {v : V} {u : Value}, NV H k v → RelV v u → NestedIs h k u
  | _, _, _, .non, r => by cases (show _ = Value.none from r); exact .none
  | _, _, _, .int i, r => by obtain ⟨t, rfl⟩ := (show ∃ t, _ = Value.int i t from r); exact .int i t
  | _, _, _, .str x, r => by obtain ⟨t, rfl⟩ := (show ∃ t, _ = Value.str x t from r); exact .text x t
  | _, _, _, .tup (b := b) (vs := vs) hb hs, r => by
    cases (show _ = Value.ref b from r)
    obtain ⟨_, its, rv, o, o1, o2, n, o3⟩ := (show ObjOk P w H h b (.tup vs) from ok b _ hb)
    exact .tup o1 o2 o3 (by simpa using NVs.are ok hs rv)
theorem NVs.are {P : Program} {w : World} {H : Hp} {h : Heap} (ok : HOk P w H h) : ∀ {ks : List NestedKey} {vs : List V} {us : List Value}, NVs H ks vs → Vals vs us → NestedAll h ks us
  | _, _, _, .nil, r => by cases r; exact .nil
  | _, _, _, .cons a b, r => by
    cases r with
    | cons r1 r2 => exact .cons (NV.is ok a r1) (NVs.are ok b r2)
end
mutual
theorem NV.mono {H H' : Hp} (e : ∀ b ys, H b = some (.tup ys) → H' b = some (.tup ys)) : ∀ {k : NestedKey} {v : V}, NV H k v → NV H' k v
  | _, _, .non => .non
  | _, _, .int i => .int i
  | _, _, .str x => .str x
  | _, _, .tup h hs => .tup (e _ _ h) (NVs.mono e hs)
theorem NVs.mono {H H' : Hp} (e : ∀ b ys, H b = some (.tup ys) → H' b = some (.tup ys)) : ∀ {ks : List NestedKey} {vs : List V}, NVs H ks vs → NVs H' ks vs
  | _, _, .nil => .nil
  | _, _, .cons a b => .cons (NV.mono e a) (NVs.mono e b)
end
abbrev NKvs := List (NestedKey × Addr × V)
def nRel (p : NestedKey × Addr × V) (q : NestedKey × Addr × Value) : Prop := p.1 = q.1 ∧ p.2.1 = q.2.1 ∧ RelV p.2.2 q.2.2
def valN (kvs : NKvs) (k : NestedKey) : Option V := (kvs.find? fun p => decide (p.1 = k)).map (·.2.2)
/-- what is true of the object of such a dict -/
def dnP (P : Program) (w : World) (a : Addr) (kvs : NKvs) (h : Heap) : Prop := kvs.length ≤ sizeLine ∧ (a == sysModules) = false ∧ ∃ xs : List (NestedKey × Addr × Value), Paired nRel kvs xs ∧
  ∃ o es ep, h.get? a = some o ∧ o.ExactDict ∧ o.data = .dict es ep ∧ es.toList = xs.map (entryOfKey (nestedKind P w)) ∧ (xs.map (·.1)).Nodup
def DN (P : Program) (w : World) (a : Addr) (kvs : NKvs) : HO := .ext (dnP P w a kvs)
/-- its keys stand as tuples, to depth 8 -/
def NKeys (H : Hp) (kvs : NKvs) : Prop := ∀ p ∈ kvs, NV H p.1 (.ref p.2.1) ∧ p.1.depth ≤ 8
theorem NKeys.mono {H H' : Hp} {kvs : NKvs} (h : NKeys H kvs) (e : ∀ b ys, H b = some (.tup ys) → H' b = some (.tup ys)) : NKeys H' kvs := fun p hp => ⟨(h p hp).1.mono e, (h p hp).2⟩
theorem NKeys.snoc {H : Hp} {kvs : NKvs} {k : NestedKey} {b : Addr} {v : V} (h : NKeys H kvs) (hk : NV H k (.ref b)) (hd : k.depth ≤ 8) : NKeys H (kvs ++ [(k, b, v)]) := fun p hp => by
  rcases List.mem_append.mp hp with m | m
  · exact h p m
  · rw [List.mem_singleton.mp m]; exact ⟨hk, hd⟩
theorem n_val {kvs : NKvs} {xs : List (NestedKey × Addr × Value)} (r : Paired nRel kvs xs) (k : NestedKey) : RelO (valN kvs k) ((atKey xs k).map (·.2)) := by
  induction r with
  | nil => exact True.intro
  | @cons p q ps qs hpq t ih =>
    obtain ⟨e1, _, e3⟩ := hpq
    unfold valN atKey at ih ⊢
    rw [List.find?_cons, List.find?_cons, ← e1]
    by_cases e : p.1 = k
    · rw [decide_eq_true e]; exact e3
    · rw [decide_eq_false e]; exact ih
theorem dn_ok {P : Program} {w : World} {H : Hp} {h : Heap} {a : Addr} {kvs : NKvs} (d : dnP P w a kvs h) : ObjOk P w H h a (DN P w a kvs) := by
  refine ⟨d, ?_, fun g1 g2 q st => ?_⟩
  · obtain ⟨_, _, _, _, o, _, _, e, _⟩ := d
    exact ⟨o, e⟩
  · obtain ⟨z, y, xs, r, o, es, ep, e, c⟩ := q
    exact ⟨z, y, xs, r, o, es, ep, st _ e, c⟩
theorem n_keys {P : Program} {w : World} {H : Hp} {h : Heap} (ok : HOk P w H h) {kvs : NKvs} {xs : List (NestedKey × Addr × Value)} (r : Paired nRel kvs xs) : NKeys H kvs → ∀ x ∈ xs, (nestedKind P w).is h x.1 x.2.1 := by
  induction r with
  | nil => intro _ x hx; cases hx
  | @cons p q ps qs hpq t ih =>
    intro hk x hx
    rcases List.mem_cons.mp hx with m | m
    · obtain ⟨n1, n2⟩ := hk p List.mem_cons_self
      rw [m, ← hpq.1, ← hpq.2.1]
      exact ⟨NV.is ok n1 rfl, n2⟩
    · exact ih (fun p' hp' => hk p' (List.mem_cons_of_mem _ hp')) x m
section
variable {X : Cx} {pins : List (Addr × Obj)} {σ : L2.St} {H : Hp} {s : Shared} {a b : Addr} {kvs : NKvs} {k : NestedKey} {A : Around} {E : Value → Shared → Prop}
theorem dn_at (I : Inv X pins σ H s) (e : H a = some (DN X.prog X.w a kvs)) (hk : NKeys H kvs) : kvs.length ≤ sizeLine ∧ (a == sysModules) = false ∧ ∃ xs, Paired nRel kvs xs ∧ s.heap.DictOfH (nestedKind X.prog X.w) a xs := by
  obtain ⟨⟨z, y, xs, r, o, es, ep, e1, e2, e3, e4, e5⟩, _⟩ := (show ObjOk X.prog X.w H s.heap a (DN X.prog X.w a kvs) from I.hok a _ e)
  exact ⟨z, y, xs, r, o, es, ep, e1, e2, e3, e4, n_keys I.hok r hk, e5⟩
theorem dn_getItem {v : V} {Q : Value → Shared → Prop} (ha : A.units + 9 < cLine) (I : Inv X pins σ H s) (e : H a = some (DN X.prog X.w a kvs)) (hk : NKeys H kvs) (nk : NV H k (.ref b)) (dk : k.depth ≤ 8) (l : valN kvs k = some v)
    (q : ∀ u s', Inv X pins σ H s' → RelV v u → Q u s') : wpAny (model X.prog X.w) A (getItem (.ref a) (.ref b)) Q E s := by
  obtain ⟨z, hd, xs, rel, dd⟩ := dn_at I e hk
  obtain ⟨u, hu, ru⟩ := RelO.some_of (v := v) (o := (atKey xs k).map (·.2)) (by rw [← l]; exact n_val rel k)
  obtain ⟨p, hp, hp2⟩ := Option.map_eq_some_iff.mp hu
  refine wpAny_getItem_heap (knd := nestedKind X.prog X.w) (by show A.in1.units + 8 < cLine; exact ha) ⟨NV.is I.hok nk rfl, dk⟩ dd hp ?_
  rw [hp2]
  exact q u _ (I.tok _) ru
theorem dn_in {Q : Value → Shared → Prop} (ha : A.units + 9 < cLine) (I : Inv X pins σ H s) (e : H a = some (DN X.prog X.w a kvs)) (hk : NKeys H kvs) (nk : NV H k (.ref b)) (dk : k.depth ≤ 8)
    (q : ∀ s', Inv X pins σ H s' → Q (.bool (valN kvs k).isSome) s') : wpAny (model X.prog X.w) A (compareOp .In (.ref b) (.ref a)) Q E s := by
  obtain ⟨z, hd, xs, rel, dd⟩ := dn_at I e hk
  refine wpAny_in_heap (knd := nestedKind X.prog X.w) (by show A.in1.units + 8 < cLine; exact ha) ⟨NV.is I.hok nk rfl, dk⟩ hd dd ?_
  have t := (n_val rel k).isSome_eq
  rw [Option.isSome_map] at t
  rw [← t]
  exact q _ (I.tok _)
theorem dn_notIn {Q : Value → Shared → Prop} (ha : A.units + 9 < cLine) (I : Inv X pins σ H s) (e : H a = some (DN X.prog X.w a kvs)) (hk : NKeys H kvs) (nk : NV H k (.ref b)) (dk : k.depth ≤ 8)
    (q : ∀ s', Inv X pins σ H s' → Q (.bool (!(valN kvs k).isSome)) s') : wpAny (model X.prog X.w) A (compareOp .NotIn (.ref b) (.ref a)) Q E s := by
  obtain ⟨z, hd, xs, rel, dd⟩ := dn_at I e hk
  refine wpAny_notIn_heap (knd := nestedKind X.prog X.w) (by show A.in1.units + 8 < cLine; exact ha) ⟨NV.is I.hok nk rfl, dk⟩ hd dd ?_
  have t := (n_val rel k).isSome_eq
  rw [Option.isSome_map] at t
  rw [← t]
  exact q _ (I.tok _)
/-- a new key is stored -/
theorem dn_setItem {v : V} {u : Value} {Q : Unit → Shared → Prop} (ha : A.units + 9 < cLine) (I : Inv X pins σ H s) (e : H a = some (DN X.prog X.w a kvs)) (hk : NKeys H kvs) (nk : NV H k (.ref b)) (dk : k.depth ≤ 8) (l : valN kvs k = none) (hl : kvs.length < sizeLine) (ru : RelV v u)
    (q : ∀ s', Inv X pins σ (upd H a (DN X.prog X.w a (kvs ++ [(k, b, v)]))) s' → Q () s') : wpAny (model X.prog X.w) A (setItem (.ref a) (.ref b) u) Q E s := by
  obtain ⟨z, hd, xs, rel, dd⟩ := dn_at I e hk
  have hz : xs.length ≤ sizeLine := by rw [← Paired.length rel]; exact z
  have hn : atKey xs k = none := by
    have t := (n_val rel k).isSome_eq
    rw [l, Option.isSome_map] at t
    cases m : atKey xs k with
    | none => rfl
    | some _ => rw [m] at t; cases t
  refine wpAny_setItem_heap (knd := nestedKind X.prog X.w) (hsz := hz) (by show A.in1.units + 8 < cLine; exact ha) ⟨NV.is I.hok nk rfl, dk⟩ dd fun h' dd' hs => q _ ?_
  rw [storedH_new hn] at dd'
  obtain ⟨o, es, ep, e1, e2, e3, e4, _, e5⟩ := dd'
  exact d_write I (by rw [e]; exact True.intro) hs ⟨o, e1⟩ (dn_ok ⟨by rw [List.length_append]; exact hl, hd, _, Paired.snoc rel ⟨rfl, rfl, ru⟩, o, es, ep, e1, e2, e3, e4, e5⟩)
end
theorem hn_of {A : Around} {k : Nat} (hr : Room k A) : A.units + 9 < cLine := by have := hr65 hr; omega
def nGetK (P : Program) (w : World) (Q : VK) (x : V) : VK := fun y J => ∃ (a b : Addr) (kvs : NKvs) (k : NestedKey) (v : V), x = .ref a ∧ y = .ref b ∧ J a = some (DN P w a kvs) ∧ NKeys J kvs ∧ NV J k (.ref b) ∧ k.depth ≤ 8 ∧ valN kvs k = some v ∧ Q v J
def tNGet (P : Program) (w : World) (td ty : TE) : TE := fun σ H Q => td σ H fun x J => ty σ J (nGetK P w Q x)
def nInK (P : Program) (w : World) (n : Bool) (Q : VK) (y : V) : VK := fun x J => ∃ (a b : Addr) (kvs : NKvs) (k : NestedKey), x = .ref a ∧ y = .ref b ∧ J a = some (DN P w a kvs) ∧ NKeys J kvs ∧ NV J k (.ref b) ∧ k.depth ≤ 8 ∧ Q (.bl (xor n (valN kvs k).isSome)) J
def tNIn (P : Program) (w : World) (n : Bool) (ty td : TE) : TE := fun σ H Q => ty σ H fun y J => td σ J (nInK P w n Q y)
def nPutK (P : Program) (w : World) (D : Ends) (σ : L2.St) (v x : V) : VK := fun y J => ∃ (a b : Addr) (kvs : NKvs) (k : NestedKey), x = .ref a ∧ y = .ref b ∧ J a = some (DN P w a kvs) ∧ NKeys J kvs ∧ NV J k (.ref b) ∧ k.depth ≤ 8 ∧ valN kvs k = none ∧ kvs.length < sizeLine ∧ D.nx σ (upd J a (DN P w a (kvs ++ [(k, b, v)])))
def sNPut (P : Program) (w : World) (td ty tv : TE) : TS := fun D σ H => tv σ H fun v H1 => td σ H1 fun x H2 => ty σ H2 (nPutK P w D σ v x)
def tNNew (P : Program) (w : World) : TE := fun _ H Q => ∀ p, H p = none → Q (.ref p) (upd H p (DN P w p []))
section
variable {X : Cx} {o i value : Expr} {pos pos' : Pos} {td ty tv : TE}
theorem pe_nget (ha : X.A.units + 9 < cLine) (po : PE X o td) (pi : PE X i ty) (ns : NoSl i) : PE X (.Subscript o i pos) (tNGet X.prog X.w td ty) := ⟨fun pins s σ H Q I q => by
  refine subD_of PySem.F.slot_dict_getitem.lookup ns (thn (po.run pins s σ H _ I q) fun u s1 ⟨x, J, IJ, rx, q1⟩ => thn (pi.run pins s1 σ J _ IJ q1) fun iv s2 ⟨y, L, IL, ry, a, b, kvs, k, v, ex, ey, e, hk, nk, dk, l, q2⟩ => ?_)
  subst ex ey
  obtain rfl : u = Value.ref a := rx
  obtain rfl : iv = Value.ref b := ry
  obtain ⟨_, _, xs, _, dd⟩ := dn_at IL e hk
  exact ⟨dd.typeIs, dn_getItem ha IL e hk nk dk l fun z s3 I3 rz => ⟨v, L, I3, rz, q2⟩⟩⟩
theorem pc_nin (ha : X.A.units + 9 < cLine) (pi : PE X i ty) (po : PE X o td) : PC X .In i o (tNIn X.prog X.w false ty td) := ⟨fun pins s σ H Q I q => by
  refine thn (pi.run pins s σ H _ I q) fun iv s1 ⟨y, J, IJ, ry, q1⟩ => thn (po.run pins s1 σ J _ IJ q1) fun u s2 ⟨x, L, IL, rx, a, b, kvs, k, ex, ey, e, hk, nk, dk, q2⟩ => ?_
  subst ex ey
  obtain rfl : u = Value.ref a := rx
  obtain rfl : iv = Value.ref b := ry
  exact dn_in ha IL e hk nk dk fun s3 I3 => ⟨.bl (valN kvs k).isSome, L, I3, rfl, by rw [Bool.false_xor] at q2; exact q2⟩⟩
theorem pc_nnotin (ha : X.A.units + 9 < cLine) (pi : PE X i ty) (po : PE X o td) : PC X .NotIn i o (tNIn X.prog X.w true ty td) := ⟨fun pins s σ H Q I q => by
  refine thn (pi.run pins s σ H _ I q) fun iv s1 ⟨y, J, IJ, ry, q1⟩ => thn (po.run pins s1 σ J _ IJ q1) fun u s2 ⟨x, L, IL, rx, a, b, kvs, k, ex, ey, e, hk, nk, dk, q2⟩ => ?_
  subst ex ey
  obtain rfl : u = Value.ref a := rx
  obtain rfl : iv = Value.ref b := ry
  exact dn_notIn ha IL e hk nk dk fun s3 I3 => ⟨.bl (!(valN kvs k).isSome), L, I3, rfl, by rw [Bool.true_xor] at q2; exact q2⟩⟩
theorem ps_nput (ha : X.A.units + 9 < cLine) (po : PE X o td) (pi : PE X i ty) (pv' : PE X value tv) (sw : swapsWith value (some (.Subscript o i pos')) pos.line X.env = pure false) : PS X (.Assign [.Subscript o i pos'] value pos) (sNPut X.prog X.w td ty tv) := ⟨fun pins s σ H D I q => by
  refine wpAny_Assign_Subscript (thn (pv'.run pins s σ H _ I q) fun r s1 ⟨v, J1, I1, rv, q1⟩ => thn (po.run pins s1 σ J1 _ I1 q1) fun u s2 ⟨x, J2, I2, rx, q2⟩ => thn (pi.run pins s2 σ J2 _ I2 q2) fun iv s3 ⟨y, J3, I3, ry, a, b, kvs, k, ex, ey, e, hk, nk, dk, l, hl, q3⟩ => ?_) sw
  subst ex ey
  obtain rfl : u = Value.ref a := rx
  obtain rfl : iv = Value.ref b := ry
  exact dn_setItem ha I3 e hk nk dk l hl rv fun s4 I4 => ⟨σ, _, I4, q3⟩⟩
theorem pe_nnew : PE X (.Dict [] [] pos) (tNNew X.prog X.w) := ⟨fun pins s σ H Q I q =>
  wpAny_Dict_empty ⟨.ref s.heap.objs.size, _, I.laid (a := s.heap.objs.size) (o := DN X.prog X.w s.heap.objs.size []) (t' := s.toks) (fun _ _ z => Heap.get?_push_of_some _ z) (Nat.le_refl _)
    (dn_ok ⟨Nat.zero_le _, beq_eq_false_iff_ne.mpr (Ne.symm (Nat.ne_of_lt I.big)), [], .nil, _, #[], 0, Heap.get?_push_size _ rfl, ⟨rfl, rfl, rfl⟩, rfl, rfl, List.nodup_nil⟩), rfl, q _ (I.hok.fresh (Nat.le_refl _))⟩⟩
end
section
variable {P : Program} {w : World} {σ : L2.St} {H : Hp} {Q : VK} {D : Ends} {td ty tv : TE} {a b : Addr} {kvs : NKvs} {k : NestedKey} {v : V} {n : Bool}
theorem q_tNGet (q : td σ H fun x J => ty σ J (nGetK P w Q x)) : tNGet P w td ty σ H Q := q
theorem q_nGetK (e : H a = some (DN P w a kvs)) (hk : NKeys H kvs) (nk : NV H k (.ref b)) (dk : k.depth ≤ 8) (l : valN kvs k = some v) (q : Q v H) : nGetK P w Q (.ref a) (.ref b) H := ⟨a, b, kvs, k, v, rfl, rfl, e, hk, nk, dk, l, q⟩
theorem q_tNIn (q : ty σ H fun y J => td σ J (nInK P w n Q y)) : tNIn P w n ty td σ H Q := q
theorem q_nInK (e : H a = some (DN P w a kvs)) (hk : NKeys H kvs) (nk : NV H k (.ref b)) (dk : k.depth ≤ 8) (q : Q (.bl (xor n (valN kvs k).isSome)) H) : nInK P w n Q (.ref b) (.ref a) H := ⟨a, b, kvs, k, rfl, rfl, e, hk, nk, dk, q⟩
theorem q_sNPut (q : tv σ H fun v H1 => td σ H1 fun x H2 => ty σ H2 (nPutK P w D σ v x)) : sNPut P w td ty tv D σ H := q
theorem q_nPutK (e : H a = some (DN P w a kvs)) (hk : NKeys H kvs) (nk : NV H k (.ref b)) (dk : k.depth ≤ 8) (l : valN kvs k = none) (hl : kvs.length < sizeLine) (q : D.nx σ (upd H a (DN P w a (kvs ++ [(k, b, v)])))) : nPutK P w D σ v (.ref a) (.ref b) H := ⟨a, b, kvs, k, rfl, rfl, e, hk, nk, dk, l, hl, q⟩
theorem q_tNNew (q : ∀ p, H p = none → Q (.ref p) (upd H p (DN P w p []))) : tNNew P w σ H Q := q
end
theorem pss_cls2 {X : Cx} {oe : Obj} {cls : Value} {d : Option Addr} {b : List Stmt} {C C2 : Addr} {t t2 : TS} (hz : Zc cls d oe) (h : Zc (.ref C) none oe → PSs X b t) (h2 : Zc (.ref C2) none oe → PSs X b t2) :
    PSs X b (fun D σ H => ((cls = .ref C ∧ d = none) ∧ t D σ H) ∨ ((cls = .ref C2 ∧ d = none) ∧ t2 D σ H)) := ⟨fun pins s σ H D I q => by
  rcases q with ⟨⟨e1, e2⟩, q⟩ | ⟨⟨e1, e2⟩, q⟩
  · rw [e1, e2] at hz; exact (h hz).run pins s σ H D I q
  · rw [e1, e2] at hz; exact (h2 hz).run pins s σ H D I q⟩
theorem passF {P : Program} {w : World} {X : Cx} : Passes (L2.CX P w) X E0 := fun _ _ _ _ _ _ _ h => by
  obtain ⟨_, _, _, _, _, _, _, _, _, _, _, _, h⟩ := h
  exact h.elim

theorem q_nxE {D : Ends} {σ : L2.St} {H : Hp} {n : L2.St → Hp → Prop} {r : VK} {b c : L2.St → Hp → Prop} (e : D = ⟨n, r, b, c⟩) (h : n σ H) : D.nx σ H := by rw [e]; exact h
theorem q_rtE {D : Ends} {v : V} {H : Hp} {n : L2.St → Hp → Prop} {r : VK} {b c : L2.St → Hp → Prop} (e : D = ⟨n, r, b, c⟩) (h : r v H) : D.rt v H := by rw [e]; exact h
theorem q_bkE {D : Ends} {σ : L2.St} {H : Hp} {n : L2.St → Hp → Prop} {r : VK} {b c : L2.St → Hp → Prop} (e : D = ⟨n, r, b, c⟩) (h : b σ H) : D.bk σ H := by rw [e]; exact h
theorem q_cnE {D : Ends} {σ : L2.St} {H : Hp} {n : L2.St → Hp → Prop} {r : VK} {b c : L2.St → Hp → Prop} (e : D = ⟨n, r, b, c⟩) (h : c σ H) : D.ct σ H := by rw [e]; exact h
theorem q_bodyG {D : Ends} {t : TS} {σ : L2.St} {H : Hp} (h : ∀ (N : L2.St → Hp → Prop) (R : VK) (B C : L2.St → Hp → Prop), (∀ σ H, D.nx σ H → N σ H) → t ⟨N, R, B, C⟩ σ H) : t D σ H := h D.nx D.rt D.bk D.ct fun _ _ q => q
/-! an attribute or an item changed by an operator; a list unpacked; the sum over a dict's keys -/
section
variable {K : PySem.W.Frag} {σ : L2.St} {H : Hp} {Q : VK} {D : Ends} {a C dx : Addr} {v : V} {i j : Int} {ta tv td ty : TE} {rd : V → V → Hp → VK → Prop} {f s : Str} {fs : List (Str × V)} {kvs : List (Key × V)}
def faug2 (rd : V → V → Hp → VK → Prop) (v : V) (f : Str) (a C : Addr) (D : Ends) (σ : L2.St) : VK := fun y H2 => rd v y H2 fun z H3 => ∃ dx' fs', H3 a = some (.ins C dx' fs') ∧ fs'.length < 1000 ∧ D.nx σ (upd H3 a (.ins C dx' (putF f z fs')))
def faugK (K : PySem.W.Frag) (tv : TE) (rd : V → V → Hp → VK → Prop) (f : Str) (D : Ends) (σ : L2.St) : VK := fun x H1 => ∃ a C dx fs v, x = .ref a ∧ H1 a = some (.ins C dx fs) ∧ Cls K C ∧ NoAttr K C f ∧ fs.lookup f = some v ∧ tv σ H1 (faug2 rd v f a C D σ)
theorem q_sFldAug (h : ta σ H (faugK K tv rd f D σ)) : sFldAug K ta tv rd f D σ H := h
theorem q_faugK (h : H a = some (.ins C dx fs)) (hc : Cls K C) (hn : NoAttr K C f) (hl : fs.lookup f = some v) (k : tv σ H (faug2 rd v f a C D σ)) : faugK K tv rd f D σ (.ref a) H := ⟨a, C, dx, fs, v, rfl, h, hc, hn, hl, k⟩
theorem q_faugA (h : H a = some (.ins C dx fs)) (hl : fs.length < 1000) (k : D.nx σ (upd H a (.ins C dx (putF f (.int (i + j)) fs)))) : faug2 rAdd (.int i) f a C D σ (.int j) H := ⟨i, j, rfl, rfl, dx, fs, h, hl, k⟩
theorem q_faugS (h : H a = some (.ins C dx fs)) (hl : fs.length < 1000) (k : D.nx σ (upd H a (.ins C dx (putF f (.int (i - j)) fs)))) : faug2 rSub (.int i) f a C D σ (.int j) H := ⟨i, j, rfl, rfl, dx, fs, h, hl, k⟩
def daug2 (rd : V → V → Hp → VK → Prop) (D : Ends) (σ : L2.St) (v : V) (a : Addr) (y : V) : VK := fun y2 H3 => rd v y2 H3 fun z H4 => ∃ H5, DPut H4 a y z H5 ∧ D.nx σ H5
def daugK (tv : TE) (rd : V → V → Hp → VK → Prop) (D : Ends) (σ : L2.St) (x : V) : VK := fun y H2 => ∃ a v, x = .ref a ∧ DGet H2 a y (some v) ∧ tv σ H2 (daug2 rd D σ v a y)
theorem q_sDAug (h : td σ H fun x H1 => ty σ H1 (daugK tv rd D σ x)) : sDAug td ty tv rd D σ H := h
theorem q_daugK (h : H a = some (.dK kvs)) (hv : valV kvs (.inr s) = some v) (k : tv σ H (daug2 rd D σ v a (.str s))) : daugK tv rd D σ (.ref a) (.str s) H := ⟨a, v, rfl, by rw [← hv]; exact DGet.k (k := Sum.inr s) h, k⟩
theorem q_daugS (h : H a = some (.dK kvs)) (hl : kvs.length < sizeLine) (k : D.nx σ (upd H a (.dK (putK kvs (.inr s) (.int (i - j)))))) : daug2 rSub D σ (.int i) a (.str s) (.int j) H := ⟨i, j, rfl, rfl, _, DPut.k (k := Sum.inr s) h hl, k⟩
theorem q_daugA (h : H a = some (.dK kvs)) (hl : kvs.length < sizeLine) (k : D.nx σ (upd H a (.dK (putK kvs (.inr s) (.int (i + j)))))) : daug2 rAdd D σ (.int i) a (.str s) (.int j) H := ⟨i, j, rfl, rfl, _, DPut.k (k := Sum.inr s) h hl, k⟩
end
def rMulStr01 : R2 := fun x y H Q => ∃ s, x = .str s ∧ ((y = .int 1 ∧ Q (.str s) H) ∨ (y = .int 0 ∧ Q (.str Str.empty) H))
theorem oq_mulStr01 {X : Cx} : OpR X (binaryOp .Mult) rMulStr01 := by
  intro pins s σ H x y v u Q I rx ry h
  obtain ⟨z, rfl, h⟩ := h
  obtain ⟨t, rfl⟩ := rx
  rcases h with ⟨rfl, q⟩ | ⟨rfl, q⟩
  · obtain ⟨t', rfl⟩ := ry
    refine PySem.P.mul_str (by decide) (fun _ h => by cases h) (fun _ h => by cases h) ?_
    rw [if_neg (show ¬ (1 : Int) < 1 by omega), if_pos (by rfl)]
    exact ⟨.str z, H, I, ⟨_, rfl⟩, q⟩
  · obtain ⟨t', rfl⟩ := ry
    exact PySem.P.mul_str_none (by decide) (by decide) ⟨.str Str.empty, H, I.tok _, ⟨_, rfl⟩, q⟩
theorem q_mul1 {H : Hp} {Q : VK} {s : Str} (k : Q (.str s) H) : rMulStr01 (.str s) (.int 1) H Q := ⟨s, rfl, .inl ⟨rfl, k⟩⟩
theorem q_mul0 {H : Hp} {Q : VK} {s : Str} (k : Q (.str Str.empty) H) : rMulStr01 (.str s) (.int 0) H Q := ⟨s, rfl, .inr ⟨rfl, k⟩⟩
theorem q_int1f {H : Hp} {Q : VK} (k : Q (.int 0) H) : rInt1 [.bl false] H Q := .inr ⟨false, rfl, k⟩
/-! a walk over a dict's own keys, reading it -/
theorem q_unl {K : PySem.W.Frag} {σ : L2.St} {H : Hp} {a : Addr} {xs : List V} {n : Nat} {tg : TGs} {R : L2.St → Hp → Prop} (h : SqL K H a xs) (hn : xs.length = n) (k : tg xs σ H R) : gUnl K n tg (.ref a) σ H R := ⟨a, xs, rfl, h, hn, k⟩
/-! while -/
section
variable {σ : L2.St} {H : Hp} {D : Ends} {c : TT} {tb : TS}
def whK (tb : TS) (D : Ends) (Pv : Nat → L2.St → Hp → Prop) (m : Nat) (σ : L2.St) : Bool → Hp → Prop := fun b H1 => if b = true then ∃ N : L2.St → Hp → Prop, (∀ σ' H', N σ' H' → ∃ m', m' < m ∧ Pv m' σ' H') ∧ tb { D with nx := N, ct := N, bk := D.nx } σ H1 else D.nx σ H1
theorem q_while (Pv : Nat → L2.St → Hp → Prop) {m0 : Nat} (h0 : Pv m0 σ H) (hs : ∀ m σ H, Pv m σ H → c σ H (whK tb D Pv m σ)) : tWhile c tb D σ H := ⟨Pv, ⟨m0, h0⟩, hs⟩
theorem q_whT {Pv : Nat → L2.St → Hp → Prop} {m : Nat} (h : tb { D with nx := fun σ' H' => ∃ m', m' < m ∧ Pv m' σ' H', ct := fun σ' H' => ∃ m', m' < m ∧ Pv m' σ' H', bk := D.nx } σ H) : whK tb D Pv m σ true H := iteT ⟨_, fun _ _ h => h, h⟩
theorem q_whF {Pv : Nat → L2.St → Hp → Prop} {m : Nat} (h : D.nx σ H) : whK tb D Pv m σ false H := iteF h
theorem q_wh2 {Pv : Nat → L2.St → Hp → Prop} {m : Nat} {b : Bool} (h : b = true → tb { D with nx := fun σ' H' => ∃ m', m' < m ∧ Pv m' σ' H', ct := fun σ' H' => ∃ m', m' < m ∧ Pv m' σ' H', bk := D.nx } σ H) (h2 : b = false → D.nx σ H) : whK tb D Pv m σ b H := by
  cases b with
  | true => exact q_whT (h rfl)
  | false => exact q_whF (h2 rfl)
end
/-! one suite for several classes; get of one argument; del of an item of a dict; index; dict of pairs -/
theorem pss_clsC {X : Cx} {oe : Obj} {cls : Value} {d : Option Addr} {b : List Stmt} {C : Addr} {t t2 : TS} (hz : Zc cls d oe) (h : Zc (.ref C) none oe → PSs X b t) (h2 : PSs X b t2) :
    PSs X b (fun D σ H => ((cls = .ref C ∧ d = none) ∧ t D σ H) ∨ t2 D σ H) := ⟨fun pins s σ H D I q => by
  rcases q with ⟨⟨e1, e2⟩, q⟩ | q
  · rw [e1, e2] at hz; exact (h hz).run pins s σ H D I q
  · exact h2.run pins s σ H D I q⟩
section
variable {K : PySem.W.Frag} {σ : L2.St} {H : Hp} {Q : VK} {D : Ends} {a l : Addr} {v : V} {i : Int} {td ty : TE} {kvs : List (Key × V)} {s : Str}
def dG1K (Q : VK) (a : Addr) : VK := fun y H2 => ∃ o, DGet H2 a y o ∧ Q (o.getD .non) H2
def dG1a (ty : TE) (σ : L2.St) (Q : VK) : VK := fun x H1 => ∃ a, x = .ref a ∧ IsD H1 a ∧ ty σ H1 (dG1K Q a)
theorem q_tDGet1 (h : td σ H (dG1a ty σ Q)) : tDGet1 td ty σ H Q := h
theorem q_dG1a (h : H a = some (.dK kvs)) (k : ty σ H (dG1K Q a)) : dG1a ty σ Q (.ref a) H := ⟨a, rfl, .inl ⟨kvs, .inl h⟩, k⟩
theorem q_dG1S (h : H a = some (.dK kvs)) (k : Q ((valV kvs (.inr s)).getD .non) H) : dG1K Q a (.str s) H := ⟨_, DGet.k (k := Sum.inr s) h, k⟩
theorem q_dG1I (h : H a = some (.dK kvs)) (k : Q ((valV kvs (.inl i)).getD .non) H) : dG1K Q a (.int i) H := ⟨_, DGet.k (k := Sum.inl i) h, k⟩
def ddelK (D : Ends) (σ : L2.St) (x : V) : VK := fun y H2 => ∃ a kvs k, x = .ref a ∧ H2 a = some (.dK kvs) ∧ y = kV k ∧ (valV kvs k).isSome = true ∧ D.nx σ (upd H2 a (.dK (dropK kvs k)))
theorem q_sDDel (h : td σ H fun x H1 => ty σ H1 (ddelK D σ x)) : sDDel td ty D σ H := h
theorem q_ddelI (h : H a = some (.dK kvs)) (hs : (valV kvs (.inl i)).isSome = true) (k : D.nx σ (upd H a (.dK (dropK kvs (.inl i))))) : ddelK D σ (.ref a) (.int i) H := ⟨a, kvs, .inl i, rfl, h, rfl, hs, k⟩
theorem q_index {ys : List V} {y z : V} {j : Nat} (h : SqL K H a ys) (hy : flatV y = true) (ha : ys.all flatV = true) (hz : ys[j]? = some z) (he : eqV z y = true) (hf : ∀ (m : Nat) (z' : V), m < j → ys[m]? = some z' → eqV z' y = false) (k : Q (.int (j : Nat)) H) : rIndex K (.ref a) [y] H Q := ⟨a, ys, y, j, z, rfl, rfl, h, hy, ha, hz, he, hf, k⟩
theorem q_dSdS' {z : V} (h : H a = some (.dK kvs)) (hl : kvs.length < sizeLine) (k1 : ∀ v, valV kvs (.inr s) = some v → Q v H) (k2 : valV kvs (.inr s) = none → Q z (upd H a (.dK (putK kvs (.inr s) z)))) : dSdK Q a (.str s) z H := ⟨kvs, .inr s, h, rfl, hl, k1, k2⟩
def rDictP (K : PySem.W.Frag) : List V → Hp → VK → Prop := fun xs H Q => ∃ (a : Addr) (ps : List Addr) (kvs : List (Key × V)), xs = [.ref a] ∧ SqL K H a (ps.map V.ref) ∧ Paired (fun p kv => SqT K H p [kV kv.1, kv.2]) ps kvs ∧ ∀ p, H p = none → Q (.ref p) (upd H p (.dK (mergeK [] kvs)))
theorem cq_dictP {X : Cx} (hc : X.calm = true) : CallR X (.type "dict") (rDictP X.K) := call_dictP hc
def rLenD' : List V → Hp → VK → Prop := rLenD
theorem q_lenD (h : H a = some (.dK kvs)) (k : Q (.int kvs.length) H) : rLenD [.ref a] H Q := ⟨a, kvs, rfl, h, k⟩
theorem q_inL' {xs : List V} {x : V} (h : SqL K H l xs) (hx : flatV x = true) (ha : xs.all flatV = true) (k : Q (.bl (!inV x xs)) H) : rIn K true x (.ref l) H Q := ⟨l, xs, rfl, .inl h, hx, ha, k⟩
theorem q_eqB {c d : Bool} (k : Q (.bl (c == d)) H) : rEq (.bl c) (.bl d) H Q := ⟨rfl, by
  have e : decide (V.bl c = V.bl d) = (c == d) := by cases c <;> cases d <;> rfl
  rw [e]; exact k⟩
end
/-! a walk over a list that its body leaves ahead of the list's end: also within an except suite -/
def tForX (K : PySem.W.Frag) (te : TE) (g : TG) (tb : TS) : TS := fun D τ L => te τ L fun v M => ∃ (a : Addr) (ys : List V) (Pv : Nat → L2.St → Hp → Prop), v = .ref a ∧ SqL K M a ys ∧ Pv 0 τ M ∧
  ∀ n τ1 L1, Pv n τ1 L1 → SqL K L1 a ys ∧ ∃ y, ys[n]? = some y ∧ g y τ1 L1 fun τ2 L2 => tb { D with nx := Pv (n + 1), ct := Pv (n + 1), bk := D.nx } τ2 L2
theorem ps_forX {X : Cx} {tg l : Expr} {bd : List Stmt} {te : TE} {g : TG} {tb : TS} {ps : Pos} (own : PassesOwn (model X.prog X.w) X.A X.env X.xe) (hl : PE X l te) (hg : PG X tg g) (hb : PSs X bd tb)
    (fs : ∀ x, foldedSetIterable l X.env x = pure x := by intro _; rfl) : PS X (.For tg l bd [] ps) (tForX X.K te g tb) := by
  refine ⟨fun pn s0 τ0 L0 D J0 q0 => ?_⟩
  refine wpAny_For (thn (hl.run pn s0 τ0 L0 _ J0 q0) fun v0 sA ⟨x0, LA, JA, rA, a, ys, Pv, e0, hys, p0, turn⟩ => ?_) fs
  subst e0
  cases rA
  obtain ⟨_, _, isl, _⟩ := JA.list hys
  refine wpAny_pyIter_list isl.isList ?_
  have fok0 : FpOk X pn LA sA.heap.objs.size := JA.fpOk (Nat.le_refl _) (JA.hok.fresh (Nat.le_refl _))
  generalize hwalk : sA.heap.objs.size = wk at *
  have JB : Inv X pn τ0 LA { sA with heap := sA.heap.push { cls := .type "list_iterator", data := .fields #[.ref a, rawInt 0] } } := JA.kept (t' := sA.toks) fun b o e => Heap.get?_push_of_some _ e
  refine codeAny_forLoop_any (fun m s => ∃ n τ L, Inv X pn τ L s ∧ s.heap.IsListIter wk a n ∧ L wk = none ∧ Pv n τ L ∧ m + n = ys.length) ?_ ys.length ⟨0, τ0, LA, JB, ⟨_, by rw [← hwalk]; exact Heap.get?_push_size _ rfl, rfl, rfl⟩, fok0.1, p0, rfl⟩
  rintro m sB ⟨n, τ1, L1, J1, it1, none1, p1, hmn⟩
  obtain ⟨hys1, y, hy, st1⟩ := turn n τ1 L1 p1
  have hlt : n < ys.length := (List.getElem?_eq_some_iff.mp hy).1
  obtain ⟨_, rv1, isl1, _⟩ := J1.list hys1
  obtain ⟨u, hu, ru⟩ := rv1.get hy
  obtain ⟨_, z1, z2, z3, z4, z5⟩ := fok0
  refine wpAny_passesOwn own (wpAny_pyNext_list_item it1 isl1.isList (x := u) (by simpa using hu) fun h' it2 sb => ?_)
  have J2 : Inv X pn τ1 L1 { sB with heap := h' } := J1.turned (t' := sB.toks) (fun b o ne e => (sb.2 b ne).trans e) none1 z1 z3 z4 z5
  obtain ⟨oi, ei, ci, di⟩ := id it2
  refine wpAny_passesOwn own (go_of (s := { sB with heap := h' }) ei ci di (by decide) ?_)
  have hnc : ∀ v, oi.data ≠ .cell v := fun v z => by rw [di] at z; cases z
  have J3 : Inv X (pn ++ pinsAt [wk] h') τ1 L1 { sB with heap := h' } := J2.pinned (fun b hb => by rw [List.mem_singleton.mp hb]; exact ⟨none1, z1, z2, z3, z4, z5⟩) fun b hb => by rw [List.mem_singleton.mp hb]; exact ⟨oi, ei, hnc⟩
  have back : ∀ {τ L s}, Inv X (pn ++ pinsAt [wk] h') τ L s → Pv (n + 1) τ L → ∃ k, k < m ∧ ∃ n τ L, Inv X pn τ L s ∧ s.heap.IsListIter wk a n ∧ L wk = none ∧ Pv n τ L ∧ k + n = ys.length := fun {τ L s} J p => by
    obtain ⟨r1, r2, _⟩ := J.pin (wk, oi) (List.mem_append_right _ (List.mem_append_right _ (mem_pinsAt (List.mem_singleton.mpr rfl) ei)))
    exact ⟨m - 1, by omega, n + 1, τ, L, J.unpinned, ⟨oi, r1, ci, di⟩, r2, p, by omega⟩
  refine wpAny_passesOwn own (thn (hg.run _ _ τ1 L1 y u _ J3 ru st1) fun _ sC ⟨τ2, L2, J4, q4⟩ => ?_)
  refine wpAny_passesOwn own (thn (hb.run _ sC τ2 L2 _ J4 q4) fun fl sD q5 => ?_)
  cases fl with
  | next => obtain ⟨τ5, L5, J5, p5⟩ := q5; exact back J5 p5
  | cont => obtain ⟨τ5, L5, J5, p5⟩ := q5; exact back J5 p5
  | brk => obtain ⟨τ5, L5, J5, p5⟩ := q5; exact ⟨τ5, L5, J5.unpinned, p5⟩
  | ret v => obtain ⟨x5, τ5, L5, J5, r5, p5⟩ := q5; exact ⟨x5, τ5, L5, J5.unpinned, r5, p5⟩
theorem q_forX {K : PySem.W.Frag} {τ : L2.St} {M : Hp} {te : TE} {g : TG} {tb : TS} {D : Ends} (h : te τ M fun v M => ∃ (a : Addr) (ys : List V) (Pv : Nat → L2.St → Hp → Prop), v = .ref a ∧ SqL K M a ys ∧ Pv 0 τ M ∧
  ∀ n τ1 L1, Pv n τ1 L1 → SqL K L1 a ys ∧ ∃ y, ys[n]? = some y ∧ g y τ1 L1 fun τ2 L2 => tb { D with nx := Pv (n + 1), ct := Pv (n + 1), bk := D.nx } τ2 L2) : tForX K te g tb D τ M := h
theorem ps_forXK {K : PySem.W.Frag} {X : Cx} {tg l : Expr} {bd : List Stmt} {te : TE} {g : TG} {tb : TS} {ps : Pos} (hK : X.K = K) (own : PassesOwn (model X.prog X.w) X.A X.env X.xe) (hl : PE X l te) (hg : PG X tg g) (hb : PSs X bd tb)
    (fs : ∀ x, foldedSetIterable l X.env x = pure x := by intro _; rfl) : PS X (.For tg l bd [] ps) (tForX K te g tb) := hK ▸ ps_forX own hl hg hb fs
theorem ix_tupK {K : PySem.W.Frag} {X : Cx} (hK : X.K = K) : IxR X (rIxT K) := hK ▸ ix_tup
theorem ix_listK {K : PySem.W.Frag} {X : Cx} (hK : X.K = K) : IxR X (rIxL K) := hK ▸ ix_list
def mkA (C : Addr) (sp : Sp) (E : XK) (Q : VK) : List V → Hp → Prop := fun vs J => ∀ x dx, J x = none → J dx = none → dx ≠ x → sp (.ref x :: vs) (upd (upd J dx (.own x)) x (.ins C dx [])) (fun v L => v = .non ∧ Q (.ref x) L) E
theorem q_tMake {C : Addr} {sp : Sp} {E : XK} {t : TA} {σ : L2.St} {H : Hp} {Q : VK} (h : t σ H (mkA C sp E Q)) : tMake C sp [] E t σ H Q := by
  unfold tMake
  have e : mkA C sp E Q = fun vs J => ∀ x dx, J x = none → J dx = none → dx ≠ x → sp (.ref x :: (vs ++ [])) (upd (upd J dx (.own x)) x (.ins C dx [])) (fun v L => v = .non ∧ Q (.ref x) L) E := by
    funext vs J
    unfold mkA
    rw [List.append_nil]
  rw [← e]
  exact h

local macro_rules | `(tactic| walk_at "my_rd") => `(tactic| (repeat first
  | with_reducible refine q_tCons ?_
  | ((with_reducible apply q_var); (focus (exact rfl)))
  | with_reducible refine q_c ?_
  | ((with_reducible apply q_nxE); (focus (with_reducible exact rfl)))
  | with_reducible refine q_bK ?_
  | with_reducible refine q_call ?_
  | with_reducible refine q_callK ?_
  | with_reducible refine q_tNil ?_
  | with_reducible refine q_cb ?_
  | with_reducible refine q_seq ?_
  | with_reducible refine q_asg ?_
  | with_reducible refine q_gName ?_
  | with_reducible refine q_op ?_
  | with_reducible refine q_test ?_
  | with_reducible refine q_tB ?_
  | with_reducible refine q_ifS ?_
  | with_reducible refine q_ret ?_
  | ((with_reducible apply q_rtE); (focus (with_reducible exact rfl)))
  | with_reducible refine q_next ?_
  | with_reducible refine q_ifF ?_
  | with_reducible refine q_ifT ?_
  | with_reducible refine q_drop ?_
  | with_reducible refine q_and ?_
  | with_reducible refine q_or ?_
  | with_reducible refine q_andT ?_
  | with_reducible refine q_andF ?_
  | with_reducible refine q_orF ?_
  | with_reducible refine q_orT ?_
  | with_reducible refine q_andV ?_
  | with_reducible refine q_andVT ?_
  | with_reducible refine q_andVF ?_
  | with_reducible refine q_orV ?_
  | with_reducible refine q_gCons ?_
  | with_reducible refine q_gNil ?_
  | with_reducible refine q_tup ?_
  | with_reducible refine q_lst ?_
  | with_reducible refine q_not ?_
  | with_reducible refine q_notKT ?_
  | with_reducible refine q_notKF ?_
  | with_reducible refine q_I0 ?_
  | with_reducible refine q_eqI ?_
  | with_reducible refine q_neI ?_
  | ((with_reducible refine q_I ?_ ?_); first | decide | omega | exact ⟨by omega, by omega⟩ | exact ⟨by decide, by decide⟩ | exact .inl ⟨by omega, by omega⟩ | exact .inr ⟨by omega, by omega⟩ | exact .inr ⟨by decide, by decide⟩)
  | with_reducible refine q_eqS ?_
  | with_reducible refine q_neS ?_
  | with_reducible refine q_brk ?_
  | with_reducible refine q_ct ?_
  | ((with_reducible apply q_bkE); (focus (with_reducible exact rfl)))
  | ((with_reducible apply q_cnE); (focus (with_reducible exact rfl)))
  | with_reducible refine q_retN ?_
  | with_reducible refine q_gSub ?_
  | with_reducible refine q_for ?_
  | with_reducible refine q_iList ?_
  | with_reducible refine q_iTup ?_
  | with_reducible refine q_iRng1 ?_
  | with_reducible refine q_notK ?_
  | with_reducible refine q_orVT ?_
  | with_reducible refine q_orVF ?_
  | with_reducible refine q_notV ?_
  | with_reducible refine q_notVK ?_
  | with_reducible refine q_ifE ?_
  | with_reducible refine q_ifET ?_
  | with_reducible refine q_ifEF ?_
  | with_reducible refine q_yes ?_
  | with_reducible refine q_un ?_
  | with_reducible refine q_rU ?_
  | with_reducible refine q_abs ?_
  | with_reducible refine q_int1 ?_
  | with_reducible refine q_bm ?_
  | with_reducible refine q_bm0 ?_
  | with_reducible refine q_lc ?_
  | with_reducible refine q_keepT ?_
  | with_reducible refine q_keepF ?_
  | ((with_reducible apply q_aug); (focus (exact rfl)))
  | with_reducible refine q_ipI ?_
  | with_reducible refine q_chain ?_
  | with_reducible refine q_pairC ?_
  | with_reducible refine q_pairsK ?_
  | with_reducible refine q_pairN ?_
  | with_reducible refine q_fld ?_
  | with_reducible refine q_sFld ?_
  | with_reducible refine q_meth ?_
  | with_reducible refine q_makeK ?_
  | with_reducible refine q_isBl ?_
  | with_reducible refine q_notBl ?_
  | with_reducible refine q_sl ?_
  | with_reducible refine q_noPart ?_
  | with_reducible refine q_part ?_
  | with_reducible refine q_partK ?_
  | ((with_reducible apply q_mulStr); (focus (decide +kernel)))
  | with_reducible refine q_chT ?_
  | with_reducible refine q_chF ?_
  | with_reducible refine q_ord ?_
  | with_reducible refine q_iStr0 ?_
  | with_reducible refine q_iStr ?_
  | with_reducible refine q_tDIn ?_
  | with_reducible refine q_tDNotIn ?_
  | with_reducible refine q_tDGet ?_
  | with_reducible refine q_tDGet2 ?_
  | with_reducible refine q_tDGet1 ?_
  | with_reducible refine q_tDSetd ?_
  | ((with_reducible apply q_dG2a); (focus ((repeat first | (with_reducible exact upd_same) | (with_reducible assumption) | (with_reducible apply upd_new (by assumption)) | (with_reducible apply upd_other (by first | assumption | exact Ne.symm (by assumption))) | (with_reducible refine' Kp.get (by assumption) ?_ (by first | assumption | exact Ne.symm (by assumption))) | (with_reducible apply Same.get (by assumption))); done)))
  | ((with_reducible apply q_dSda); (focus ((repeat first | (with_reducible exact upd_same) | (with_reducible assumption) | (with_reducible apply upd_new (by assumption)) | (with_reducible apply upd_other (by first | assumption | exact Ne.symm (by assumption))) | (with_reducible refine' Kp.get (by assumption) ?_ (by first | assumption | exact Ne.symm (by assumption))) | (with_reducible apply Same.get (by assumption))); done)))
  | with_reducible refine q_sDPut ?_
  | ((with_reducible apply q_dInS); (focus ((repeat first | (with_reducible exact upd_same) | (with_reducible assumption) | (with_reducible apply upd_new (by assumption)) | (with_reducible apply upd_other (by first | assumption | exact Ne.symm (by assumption))) | (with_reducible refine' Kp.get (by assumption) ?_ (by first | assumption | exact Ne.symm (by assumption))) | (with_reducible apply Same.get (by assumption))); done)))
  | ((with_reducible apply q_dNInS); (focus ((repeat first | (with_reducible exact upd_same) | (with_reducible assumption) | (with_reducible apply upd_new (by assumption)) | (with_reducible apply upd_other (by first | assumption | exact Ne.symm (by assumption))) | (with_reducible refine' Kp.get (by assumption) ?_ (by first | assumption | exact Ne.symm (by assumption))) | (with_reducible apply Same.get (by assumption))); done)))
  | ((with_reducible apply q_dInI); (focus ((repeat first | (with_reducible exact upd_same) | (with_reducible assumption) | (with_reducible apply upd_new (by assumption)) | (with_reducible apply upd_other (by first | assumption | exact Ne.symm (by assumption))) | (with_reducible refine' Kp.get (by assumption) ?_ (by first | assumption | exact Ne.symm (by assumption))) | (with_reducible apply Same.get (by assumption))); done)))
  | ((with_reducible apply q_dNInI); (focus ((repeat first | (with_reducible exact upd_same) | (with_reducible assumption) | (with_reducible apply upd_new (by assumption)) | (with_reducible apply upd_other (by first | assumption | exact Ne.symm (by assumption))) | (with_reducible refine' Kp.get (by assumption) ?_ (by first | assumption | exact Ne.symm (by assumption))) | (with_reducible apply Same.get (by assumption))); done)))
  | ((with_reducible apply q_bmL); (focus ((repeat first | (with_reducible exact upd_same) | (with_reducible assumption) | (with_reducible apply upd_new (by assumption)) | (with_reducible apply upd_other (by first | assumption | exact Ne.symm (by assumption))) | (with_reducible refine' Kp.get (by assumption) ?_ (by first | assumption | exact Ne.symm (by assumption))) | (with_reducible apply Same.get (by assumption))); done)))
  | ((with_reducible apply q_bmL0); (focus ((repeat first | (with_reducible exact upd_same) | (with_reducible assumption) | (with_reducible apply upd_new (by assumption)) | (with_reducible apply upd_other (by first | assumption | exact Ne.symm (by assumption))) | (with_reducible refine' Kp.get (by assumption) ?_ (by first | assumption | exact Ne.symm (by assumption))) | (with_reducible apply Same.get (by assumption))); done)))
  | ((with_reducible apply q_ixLt); (focus ((repeat first | (with_reducible exact upd_same) | (with_reducible assumption) | (with_reducible apply upd_new (by assumption)) | (with_reducible apply upd_other (by first | assumption | exact Ne.symm (by assumption))) | (with_reducible refine' Kp.get (by assumption) ?_ (by first | assumption | exact Ne.symm (by assumption))) | (with_reducible apply Same.get (by assumption))); done)); (focus (exact rfl)))
  | ((with_reducible apply q_ixTt); (focus ((repeat first | (with_reducible exact upd_same) | (with_reducible assumption) | (with_reducible apply upd_new (by assumption)) | (with_reducible apply upd_other (by first | assumption | exact Ne.symm (by assumption))) | (with_reducible refine' Kp.get (by assumption) ?_ (by first | assumption | exact Ne.symm (by assumption))) | (with_reducible apply Same.get (by assumption))); done)); (focus (exact rfl)))
  | ((with_reducible apply q_lenLt); (focus ((repeat first | (with_reducible exact upd_same) | (with_reducible assumption) | (with_reducible apply upd_new (by assumption)) | (with_reducible apply upd_other (by first | assumption | exact Ne.symm (by assumption))) | (with_reducible refine' Kp.get (by assumption) ?_ (by first | assumption | exact Ne.symm (by assumption))) | (with_reducible apply Same.get (by assumption))); done)))
  | ((with_reducible apply q_lenTt); (focus ((repeat first | (with_reducible exact upd_same) | (with_reducible assumption) | (with_reducible apply upd_new (by assumption)) | (with_reducible apply upd_other (by first | assumption | exact Ne.symm (by assumption))) | (with_reducible refine' Kp.get (by assumption) ?_ (by first | assumption | exact Ne.symm (by assumption))) | (with_reducible apply Same.get (by assumption))); done)))
  | ((with_reducible apply q_append); (focus ((repeat first | (with_reducible exact upd_same) | (with_reducible assumption) | (with_reducible apply upd_new (by assumption)) | (with_reducible apply upd_other (by first | assumption | exact Ne.symm (by assumption))) | (with_reducible refine' Kp.get (by assumption) ?_ (by first | assumption | exact Ne.symm (by assumption))) | (with_reducible apply Same.get (by assumption))); done)); (focus ((first | (exact Nat.lt_of_ble_eq_true rfl) | (simp only [List.length_append, List.length_cons, List.length_nil, List.length_map]; exact small1000 (by omega))))))
  | ((with_reducible apply q_setL); (focus ((repeat first | (with_reducible exact upd_same) | (with_reducible assumption) | (with_reducible apply upd_new (by assumption)) | (with_reducible apply upd_other (by first | assumption | exact Ne.symm (by assumption))) | (with_reducible refine' Kp.get (by assumption) ?_ (by first | assumption | exact Ne.symm (by assumption))) | (with_reducible apply Same.get (by assumption))); done)); (focus (exact rfl)))
  | with_reducible refine q_ifNT ?_
  | with_reducible refine q_ifNF ?_
  | with_reducible refine q_andNT ?_
  | with_reducible refine q_andNF ?_
  | with_reducible refine q_orNT ?_
  | with_reducible refine q_orNF ?_
  | with_reducible refine q_bKNT ?_
  | with_reducible refine q_bKNF ?_
  | with_reducible refine q_tNGet ?_
  | with_reducible refine q_tNIn ?_
  | with_reducible refine q_sNPut ?_
  | with_reducible refine q_sFldAug ?_
  | with_reducible refine q_sDAug ?_
  | with_reducible refine q_sDDel ?_
  | with_reducible refine q_forX ?_
  | with_reducible refine q_tMake ?_
  | ((with_reducible apply q_dG1a); (focus ((repeat first | (with_reducible exact upd_same) | (with_reducible assumption) | (with_reducible apply upd_new (by assumption)) | (with_reducible apply upd_other (by first | assumption | exact Ne.symm (by assumption))) | (with_reducible refine' Kp.get (by assumption) ?_ (by first | assumption | exact Ne.symm (by assumption))) | (with_reducible apply Same.get (by assumption))); done)))))
theorem sc_Blocks_init : FnScope ["self", "depth", "first"] ["self", "depth", "first"] (defScope s_Blocks_init) := ⟨rfl, rfl, rfl, by decide +kernel, rfl, by decide +kernel, by decide +kernel⟩
theorem sc_Blocks_has : FnScope ["self", "number"] ["self", "number"] (defScope s_Blocks_has) := ⟨rfl, rfl, rfl, by decide +kernel, rfl, by decide +kernel, by decide +kernel⟩
theorem sc_Blocks_numbers : FnScope ["self"] ["self"] (defScope s_Blocks_numbers) := ⟨rfl, rfl, rfl, by decide +kernel, rfl, by decide +kernel, by decide +kernel⟩
theorem sc_Blocks_parent : FnScope ["self", "number"] ["self", "number"] (defScope s_Blocks_parent) := ⟨rfl, rfl, rfl, by decide +kernel, rfl, by decide +kernel, by decide +kernel⟩
theorem sc_Blocks_place : FnScope ["self", "number", "parent", "height"] ["self", "number", "parent"] (defScope s_Blocks_place) := ⟨rfl, rfl, rfl, by decide +kernel, rfl, by decide +kernel, by decide +kernel⟩
theorem sc_Blocks_final : FnScope ["self"] ["self"] (defScope s_Blocks_final) := ⟨rfl, rfl, rfl, by decide +kernel, rfl, by decide +kernel, by decide +kernel⟩
theorem sc_Blocks_is_live : FnScope ["self", "number"] ["self", "number"] (defScope s_Blocks_is_live) := ⟨rfl, rfl, rfl, by decide +kernel, rfl, by decide +kernel, by decide +kernel⟩
theorem sc_Blocks_live_tips : FnScope ["self", "number"] ["self"] (defScope s_Blocks_live_tips) := ⟨rfl, rfl, rfl, by decide +kernel, rfl, by decide +kernel, by decide +kernel⟩
theorem sc_Blocks_below : FnScope ["self", "number", "height"] ["self", "number", "height"] (defScope s_Blocks_below) := ⟨rfl, rfl, rfl, by decide +kernel, rfl, by decide +kernel, by decide +kernel⟩
theorem sc_is_integer : FnScope ["value"] ["value"] (defScope s_is_integer) := ⟨rfl, rfl, rfl, by decide +kernel, rfl, by decide +kernel, by decide +kernel⟩
theorem sc_is_at_least : FnScope ["value", "least"] ["value", "least"] (defScope s_is_at_least) := ⟨rfl, rfl, rfl, by decide +kernel, rfl, by decide +kernel, by decide +kernel⟩
theorem sc_is_text : FnScope ["value", "char", "code"] ["value"] (defScope s_is_text) := ⟨rfl, rfl, rfl, by decide +kernel, rfl, by decide +kernel, by decide +kernel⟩
theorem sc_is_short_text : FnScope ["value", "most"] ["value", "most"] (defScope s_is_short_text) := ⟨rfl, rfl, rfl, by decide +kernel, rfl, by decide +kernel, by decide +kernel⟩
theorem sc_is_account : FnScope ["value"] ["value"] (defScope s_is_account) := ⟨rfl, rfl, rfl, by decide +kernel, rfl, by decide +kernel, by decide +kernel⟩
theorem sc_is_side : FnScope ["value"] ["value"] (defScope s_is_side) := ⟨rfl, rfl, rfl, by decide +kernel, rfl, by decide +kernel, by decide +kernel⟩
theorem sc_is_set : FnScope ["value", "found", "part"] ["value"] (defScope s_is_set) := ⟨rfl, rfl, rfl, by decide +kernel, rfl, by decide +kernel, by decide +kernel⟩
theorem sc_is_pair : FnScope ["part"] ["part"] (defScope s_is_pair) := ⟨rfl, rfl, rfl, by decide +kernel, rfl, by decide +kernel, by decide +kernel⟩
theorem sc_Config_init : FnScope ["self", "tokens", "balances", "guards", "depth", "window", "delay", "bundle", "row"] ["self", "tokens", "balances", "guards", "depth", "window", "delay", "bundle"] (defScope s_Config_init) := ⟨rfl, rfl, rfl, by decide +kernel, rfl, by decide +kernel, by decide +kernel⟩
theorem sc_Config_check_token : FnScope ["self", "token"] ["self", "token"] (defScope s_Config_check_token) := ⟨rfl, rfl, rfl, by decide +kernel, rfl, by decide +kernel, by decide +kernel⟩
theorem sc_Config_home : FnScope ["self", "token"] ["self", "token"] (defScope s_Config_home) := ⟨rfl, rfl, rfl, by decide +kernel, rfl, by decide +kernel, by decide +kernel⟩
theorem sc_Config_scale : FnScope ["self", "token"] ["self", "token"] (defScope s_Config_scale) := ⟨rfl, rfl, rfl, by decide +kernel, rfl, by decide +kernel, by decide +kernel⟩
theorem sc_Config_opening : FnScope ["self", "side", "row"] ["self", "side"] (defScope s_Config_opening) := ⟨rfl, rfl, rfl, by decide +kernel, rfl, by decide +kernel, by decide +kernel⟩
theorem sc_Config_guards : FnScope ["self"] ["self"] (defScope s_Config_guards) := ⟨rfl, rfl, rfl, by decide +kernel, rfl, by decide +kernel, by decide +kernel⟩
theorem sc_Config_depth : FnScope ["self"] ["self"] (defScope s_Config_depth) := ⟨rfl, rfl, rfl, by decide +kernel, rfl, by decide +kernel, by decide +kernel⟩
theorem sc_Config_window : FnScope ["self"] ["self"] (defScope s_Config_window) := ⟨rfl, rfl, rfl, by decide +kernel, rfl, by decide +kernel, by decide +kernel⟩
theorem sc_Config_delay : FnScope ["self"] ["self"] (defScope s_Config_delay) := ⟨rfl, rfl, rfl, by decide +kernel, rfl, by decide +kernel, by decide +kernel⟩
theorem sc_Config_bundle : FnScope ["self"] ["self"] (defScope s_Config_bundle) := ⟨rfl, rfl, rfl, by decide +kernel, rfl, by decide +kernel, by decide +kernel⟩
theorem sc_check_list : FnScope ["name", "value"] ["name", "value"] (defScope s_check_list) := ⟨rfl, rfl, rfl, by decide +kernel, rfl, by decide +kernel, by decide +kernel⟩
theorem sc_check_least : FnScope ["name", "value", "least"] ["name", "value", "least"] (defScope s_check_least) := ⟨rfl, rfl, rfl, by decide +kernel, rfl, by decide +kernel, by decide +kernel⟩
theorem sc_check_token_row : FnScope ["row", "name", "home", "scale", "limit", "large"] ["row"] (defScope s_check_token_row) := ⟨rfl, rfl, rfl, by decide +kernel, rfl, by decide +kernel, by decide +kernel⟩
theorem sc_check_balance_row : FnScope ["row", "tokens", "account", "token", "amount"] ["row", "tokens"] (defScope s_check_balance_row) := ⟨rfl, rfl, rfl, by decide +kernel, rfl, by decide +kernel, by decide +kernel⟩
theorem sc_next_height : FnScope ["state", "after"] ["state"] (defScope s_next_height) := ⟨rfl, rfl, rfl, by decide +kernel, rfl, by decide +kernel, by decide +kernel⟩
theorem sc_after_block : FnScope ["config", "notary", "state", "orders", "events", "receipts", "order", "error", "told"] ["config", "notary", "state", "orders"] (defScope s_after_block) := ⟨rfl, rfl, rfl, by decide +kernel, rfl, by decide +kernel, by decide +kernel⟩
theorem sc_Sheet_init : FnScope ["self", "config", "side", "account", "token", "amount"] ["self", "config", "side"] (defScope s_Sheet_init) := ⟨rfl, rfl, rfl, by decide +kernel, rfl, by decide +kernel, by decide +kernel⟩
theorem sc_Sheet_copy : FnScope ["self", "other"] ["self"] (defScope s_Sheet_copy) := ⟨rfl, rfl, rfl, by decide +kernel, rfl, by decide +kernel, by decide +kernel⟩
theorem sc_copied : FnScope ["table", "token"] ["table"] (defScope s_copied) := ⟨rfl, rfl, rfl, by decide +kernel, rfl, by decide +kernel, by decide +kernel⟩
theorem sc_held : FnScope ["table", "token", "name"] ["table", "token", "name"] (defScope s_held) := ⟨rfl, rfl, rfl, by decide +kernel, rfl, by decide +kernel, by decide +kernel⟩
theorem sc_put : FnScope ["table", "token", "name", "amount", "rows"] ["table", "token", "name", "amount"] (defScope s_put) := ⟨rfl, rfl, rfl, by decide +kernel, rfl, by decide +kernel, by decide +kernel⟩
theorem sc_State_init : FnScope ["self", "config", "side", "sheet"] ["self", "config", "side", "sheet"] (defScope s_State_init) := ⟨rfl, rfl, rfl, by decide +kernel, rfl, by decide +kernel, by decide +kernel⟩
theorem sc_State_copy : FnScope ["self", "other"] ["self"] (defScope s_State_copy) := ⟨rfl, rfl, rfl, by decide +kernel, rfl, by decide +kernel, by decide +kernel⟩
theorem sc_State_rise : FnScope ["self"] ["self"] (defScope s_State_rise) := ⟨rfl, rfl, rfl, by decide +kernel, rfl, by decide +kernel, by decide +kernel⟩
theorem sc_opening_state : FnScope ["config", "side"] ["config", "side"] (defScope s_opening_state) := ⟨rfl, rfl, rfl, by decide +kernel, rfl, by decide +kernel, by decide +kernel⟩
theorem sc_Chain_init : FnScope ["self", "side", "config", "notary"] ["self", "side", "config", "notary"] (defScope s_Chain_init) := ⟨rfl, rfl, rfl, by decide +kernel, rfl, by decide +kernel, by decide +kernel⟩
theorem sc_Chain_add : FnScope ["self", "number", "parent", "orders", "order", "state", "events", "receipts"] ["self", "number", "parent", "orders"] (defScope s_Chain_add) := ⟨rfl, rfl, rfl, by decide +kernel, rfl, by decide +kernel, by decide +kernel⟩
theorem sc_Chain_numbers : FnScope ["self"] ["self"] (defScope s_Chain_numbers) := ⟨rfl, rfl, rfl, by decide +kernel, rfl, by decide +kernel, by decide +kernel⟩
theorem sc_Chain_parent : FnScope ["self", "number"] ["self", "number"] (defScope s_Chain_parent) := ⟨rfl, rfl, rfl, by decide +kernel, rfl, by decide +kernel, by decide +kernel⟩
theorem sc_Chain_final : FnScope ["self"] ["self"] (defScope s_Chain_final) := ⟨rfl, rfl, rfl, by decide +kernel, rfl, by decide +kernel, by decide +kernel⟩
theorem sc_Chain_tips : FnScope ["self"] ["self"] (defScope s_Chain_tips) := ⟨rfl, rfl, rfl, by decide +kernel, rfl, by decide +kernel, by decide +kernel⟩
theorem sc_Chain_check_block : FnScope ["self", "number"] ["self", "number"] (defScope s_Chain_check_block) := ⟨rfl, rfl, rfl, by decide +kernel, rfl, by decide +kernel, by decide +kernel⟩
theorem sc_Notary_init : FnScope ["self"] ["self"] (defScope s_Notary_init) := ⟨rfl, rfl, rfl, by decide +kernel, rfl, by decide +kernel, by decide +kernel⟩
theorem sc_L_pot : FnScope ["script", "seed", "cell"] ["script"] (defScope s_L_pot) := ⟨rfl, rfl, rfl, by decide +kernel, rfl, by decide +kernel, by decide +kernel⟩
theorem sc_L_next : FnScope ["pot", "limit", "mixed", "cell", "found"] ["pot", "limit"] (defScope s_L_next) := ⟨rfl, rfl, rfl, by decide +kernel, rfl, by decide +kernel, by decide +kernel⟩
theorem sc_L_set : FnScope ["pot", "most", "names", "found", "k"] ["pot", "most"] (defScope s_L_set) := ⟨rfl, rfl, rfl, by decide +kernel, rfl, by decide +kernel, by decide +kernel⟩
theorem sc_L_config : FnScope ["pot", "tokens", "name", "balances", "account", "guards", "token"] ["pot"] (defScope s_L_config) := ⟨rfl, rfl, rfl, by decide +kernel, rfl, by decide +kernel, by decide +kernel⟩
theorem sc_L_made : FnScope ["parts"] ["parts"] (defScope s_L_made) := ⟨rfl, rfl, rfl, by decide +kernel, rfl, by decide +kernel, by decide +kernel⟩
theorem sc_L_line : FnScope ["chain", "number", "found", "k"] ["chain", "number"] (defScope s_L_line) := ⟨rfl, rfl, rfl, by decide +kernel, rfl, by decide +kernel, by decide +kernel⟩
theorem sc_L_deep : FnScope ["chain", "depth", "found", "number", "line", "other"] ["chain", "depth"] (defScope s_L_deep) := ⟨rfl, rfl, rfl, by decide +kernel, rfl, by decide +kernel, by decide +kernel⟩
theorem sc_law : FnScope ["script", "pot", "parts", "chain", "before", "k", "known", "parent", "now", "tip", "number"] ["script"] (defScope s_law) := ⟨rfl, rfl, rfl, by decide +kernel, rfl, by decide +kernel, by decide +kernel⟩
set_option genInjectivity false in
set_option genSizeOf false in
structure Txt0 (K : PySem.W.Frag) (mg : Str → Option Value) where
  f_Blocks_init : Addr
  d_Blocks_init : FuncData
  F_Blocks_init : Fun K "__init__" "Blocks.__init__" s_Blocks_init f_Blocks_init d_Blocks_init
  b_Blocks_init : Binds K d_Blocks_init ["self", "depth", "first"] []
  f_Blocks_has : Addr
  d_Blocks_has : FuncData
  F_Blocks_has : Fun K "has" "Blocks.has" s_Blocks_has f_Blocks_has d_Blocks_has
  b_Blocks_has : Binds K d_Blocks_has ["self", "number"] []
  f_Blocks_numbers : Addr
  d_Blocks_numbers : FuncData
  F_Blocks_numbers : Fun K "numbers" "Blocks.numbers" s_Blocks_numbers f_Blocks_numbers d_Blocks_numbers
  b_Blocks_numbers : Binds K d_Blocks_numbers ["self"] []
  f_Blocks_parent : Addr
  d_Blocks_parent : FuncData
  F_Blocks_parent : Fun K "parent" "Blocks.parent" s_Blocks_parent f_Blocks_parent d_Blocks_parent
  b_Blocks_parent : Binds K d_Blocks_parent ["self", "number"] []
  f_Blocks_place : Addr
  d_Blocks_place : FuncData
  F_Blocks_place : Fun K "place" "Blocks.place" s_Blocks_place f_Blocks_place d_Blocks_place
  b_Blocks_place : Binds K d_Blocks_place ["self", "number", "parent"] []
  f_Blocks_final : Addr
  d_Blocks_final : FuncData
  F_Blocks_final : Fun K "final" "Blocks.final" s_Blocks_final f_Blocks_final d_Blocks_final
  b_Blocks_final : Binds K d_Blocks_final ["self"] []
  f_Blocks_is_live : Addr
  d_Blocks_is_live : FuncData
  F_Blocks_is_live : Fun K "is_live" "Blocks.is_live" s_Blocks_is_live f_Blocks_is_live d_Blocks_is_live
  b_Blocks_is_live : Binds K d_Blocks_is_live ["self", "number"] []
  f_Blocks_live_tips : Addr
  d_Blocks_live_tips : FuncData
  F_Blocks_live_tips : Fun K "live_tips" "Blocks.live_tips" s_Blocks_live_tips f_Blocks_live_tips d_Blocks_live_tips
  b_Blocks_live_tips : Binds K d_Blocks_live_tips ["self"] []
  f_Blocks_below : Addr
  d_Blocks_below : FuncData
  F_Blocks_below : Fun K "_below" "Blocks._below" s_Blocks_below f_Blocks_below d_Blocks_below
  b_Blocks_below : Binds K d_Blocks_below ["self", "number", "height"] []
  f_is_integer : Addr
  d_is_integer : FuncData
  F_is_integer : Fun K "is_integer" "is_integer" s_is_integer f_is_integer d_is_integer
  b_is_integer : Binds K d_is_integer ["value"] []
  g_is_integer : mg "is_integer" = some (.ref f_is_integer)
  f_is_at_least : Addr
  d_is_at_least : FuncData
  F_is_at_least : Fun K "is_at_least" "is_at_least" s_is_at_least f_is_at_least d_is_at_least
  b_is_at_least : Binds K d_is_at_least ["value", "least"] []
  g_is_at_least : mg "is_at_least" = some (.ref f_is_at_least)
  f_is_text : Addr
  d_is_text : FuncData
  F_is_text : Fun K "is_text" "is_text" s_is_text f_is_text d_is_text
  b_is_text : Binds K d_is_text ["value"] []
  g_is_text : mg "is_text" = some (.ref f_is_text)
  f_is_short_text : Addr
  d_is_short_text : FuncData
  F_is_short_text : Fun K "is_short_text" "is_short_text" s_is_short_text f_is_short_text d_is_short_text
  b_is_short_text : Binds K d_is_short_text ["value", "most"] []
  g_is_short_text : mg "is_short_text" = some (.ref f_is_short_text)
  f_is_account : Addr
  d_is_account : FuncData
  F_is_account : Fun K "is_account" "is_account" s_is_account f_is_account d_is_account
  b_is_account : Binds K d_is_account ["value"] []
set_option genInjectivity false in
set_option genSizeOf false in
structure Txt1 (K : PySem.W.Frag) (mg : Str → Option Value) extends Txt0 K mg where
  g_is_account : mg "is_account" = some (.ref f_is_account)
  f_is_side : Addr
  d_is_side : FuncData
  F_is_side : Fun K "is_side" "is_side" s_is_side f_is_side d_is_side
  b_is_side : Binds K d_is_side ["value"] []
  g_is_side : mg "is_side" = some (.ref f_is_side)
  f_is_set : Addr
  d_is_set : FuncData
  F_is_set : Fun K "is_set" "is_set" s_is_set f_is_set d_is_set
  b_is_set : Binds K d_is_set ["value"] []
  g_is_set : mg "is_set" = some (.ref f_is_set)
  f_is_pair : Addr
  d_is_pair : FuncData
  F_is_pair : Fun K "is_pair" "is_pair" s_is_pair f_is_pair d_is_pair
  b_is_pair : Binds K d_is_pair ["part"] []
  g_is_pair : mg "is_pair" = some (.ref f_is_pair)
  f_Config_init : Addr
  d_Config_init : FuncData
  F_Config_init : Fun K "__init__" "Config.__init__" s_Config_init f_Config_init d_Config_init
  f_Config_check_token : Addr
  d_Config_check_token : FuncData
  F_Config_check_token : Fun K "check_token" "Config.check_token" s_Config_check_token f_Config_check_token d_Config_check_token
  b_Config_check_token : Binds K d_Config_check_token ["self", "token"] []
  f_Config_home : Addr
  d_Config_home : FuncData
  F_Config_home : Fun K "home" "Config.home" s_Config_home f_Config_home d_Config_home
  b_Config_home : Binds K d_Config_home ["self", "token"] []
  f_Config_scale : Addr
  d_Config_scale : FuncData
  F_Config_scale : Fun K "scale" "Config.scale" s_Config_scale f_Config_scale d_Config_scale
  b_Config_scale : Binds K d_Config_scale ["self", "token"] []
  f_Config_opening : Addr
  d_Config_opening : FuncData
  F_Config_opening : Fun K "opening" "Config.opening" s_Config_opening f_Config_opening d_Config_opening
  b_Config_opening : Binds K d_Config_opening ["self", "side"] []
  f_Config_guards : Addr
  d_Config_guards : FuncData
  F_Config_guards : Fun K "guards" "Config.guards" s_Config_guards f_Config_guards d_Config_guards
  b_Config_guards : Binds K d_Config_guards ["self"] []
  f_Config_depth : Addr
  d_Config_depth : FuncData
  F_Config_depth : Fun K "depth" "Config.depth" s_Config_depth f_Config_depth d_Config_depth
  b_Config_depth : Binds K d_Config_depth ["self"] []
  f_Config_window : Addr
  d_Config_window : FuncData
  F_Config_window : Fun K "window" "Config.window" s_Config_window f_Config_window d_Config_window
  b_Config_window : Binds K d_Config_window ["self"] []
  f_Config_delay : Addr
  d_Config_delay : FuncData
  F_Config_delay : Fun K "delay" "Config.delay" s_Config_delay f_Config_delay d_Config_delay
  b_Config_delay : Binds K d_Config_delay ["self"] []
  f_Config_bundle : Addr
  d_Config_bundle : FuncData
  F_Config_bundle : Fun K "bundle" "Config.bundle" s_Config_bundle f_Config_bundle d_Config_bundle
  b_Config_bundle : Binds K d_Config_bundle ["self"] []
  f_check_list : Addr
  d_check_list : FuncData
  F_check_list : Fun K "check_list" "check_list" s_check_list f_check_list d_check_list
  b_check_list : Binds K d_check_list ["name", "value"] []
  g_check_list : mg "check_list" = some (.ref f_check_list)
set_option genInjectivity false in
set_option genSizeOf false in
structure Txt2 (K : PySem.W.Frag) (mg : Str → Option Value) extends Txt1 K mg where
  f_check_least : Addr
  d_check_least : FuncData
  F_check_least : Fun K "check_least" "check_least" s_check_least f_check_least d_check_least
  b_check_least : Binds K d_check_least ["name", "value", "least"] []
  g_check_least : mg "check_least" = some (.ref f_check_least)
  f_check_token_row : Addr
  d_check_token_row : FuncData
  F_check_token_row : Fun K "check_token_row" "check_token_row" s_check_token_row f_check_token_row d_check_token_row
  b_check_token_row : Binds K d_check_token_row ["row"] []
  g_check_token_row : mg "check_token_row" = some (.ref f_check_token_row)
  f_check_balance_row : Addr
  d_check_balance_row : FuncData
  F_check_balance_row : Fun K "check_balance_row" "check_balance_row" s_check_balance_row f_check_balance_row d_check_balance_row
  b_check_balance_row : Binds K d_check_balance_row ["row", "tokens"] []
  g_check_balance_row : mg "check_balance_row" = some (.ref f_check_balance_row)
  f_next_height : Addr
  d_next_height : FuncData
  F_next_height : Fun K "next_height" "next_height" s_next_height f_next_height d_next_height
  b_next_height : Binds K d_next_height ["state"] []
  g_next_height : mg "next_height" = some (.ref f_next_height)
  f_after_block : Addr
  d_after_block : FuncData
  F_after_block : Fun K "after_block" "after_block" s_after_block f_after_block d_after_block
  b_after_block : Binds K d_after_block ["config", "notary", "state", "orders"] []
  g_after_block : mg "after_block" = some (.ref f_after_block)
  f_Sheet_init : Addr
  d_Sheet_init : FuncData
  F_Sheet_init : Fun K "__init__" "Sheet.__init__" s_Sheet_init f_Sheet_init d_Sheet_init
  b_Sheet_init : Binds K d_Sheet_init ["self", "config", "side"] []
  f_Sheet_copy : Addr
  d_Sheet_copy : FuncData
  F_Sheet_copy : Fun K "copy" "Sheet.copy" s_Sheet_copy f_Sheet_copy d_Sheet_copy
  b_Sheet_copy : Binds K d_Sheet_copy ["self"] []
  f_copied : Addr
  d_copied : FuncData
  F_copied : Fun K "copied" "copied" s_copied f_copied d_copied
  b_copied : Binds K d_copied ["table"] []
  g_copied : mg "copied" = some (.ref f_copied)
  f_held : Addr
  d_held : FuncData
  F_held : Fun K "held" "held" s_held f_held d_held
  b_held : Binds K d_held ["table", "token", "name"] []
  g_held : mg "held" = some (.ref f_held)
  f_put : Addr
  d_put : FuncData
  F_put : Fun K "put" "put" s_put f_put d_put
  b_put : Binds K d_put ["table", "token", "name", "amount"] []
  g_put : mg "put" = some (.ref f_put)
  f_State_init : Addr
  d_State_init : FuncData
  F_State_init : Fun K "__init__" "State.__init__" s_State_init f_State_init d_State_init
  b_State_init : Binds K d_State_init ["self", "config", "side", "sheet"] []
  f_State_copy : Addr
  d_State_copy : FuncData
  F_State_copy : Fun K "copy" "State.copy" s_State_copy f_State_copy d_State_copy
  b_State_copy : Binds K d_State_copy ["self"] []
  f_State_rise : Addr
  d_State_rise : FuncData
  F_State_rise : Fun K "rise" "State.rise" s_State_rise f_State_rise d_State_rise
  b_State_rise : Binds K d_State_rise ["self"] []
set_option genInjectivity false in
set_option genSizeOf false in
structure Txt3 (K : PySem.W.Frag) (mg : Str → Option Value) extends Txt2 K mg where
  f_opening_state : Addr
  d_opening_state : FuncData
  F_opening_state : Fun K "opening_state" "opening_state" s_opening_state f_opening_state d_opening_state
  b_opening_state : Binds K d_opening_state ["config", "side"] []
  g_opening_state : mg "opening_state" = some (.ref f_opening_state)
  f_Chain_init : Addr
  d_Chain_init : FuncData
  F_Chain_init : Fun K "__init__" "Chain.__init__" s_Chain_init f_Chain_init d_Chain_init
  b_Chain_init : Binds K d_Chain_init ["self", "side", "config", "notary"] []
  f_Chain_add : Addr
  d_Chain_add : FuncData
  F_Chain_add : Fun K "add" "Chain.add" s_Chain_add f_Chain_add d_Chain_add
  b_Chain_add : Binds K d_Chain_add ["self", "number", "parent", "orders"] []
  f_Chain_numbers : Addr
  d_Chain_numbers : FuncData
  F_Chain_numbers : Fun K "numbers" "Chain.numbers" s_Chain_numbers f_Chain_numbers d_Chain_numbers
  b_Chain_numbers : Binds K d_Chain_numbers ["self"] []
  f_Chain_parent : Addr
  d_Chain_parent : FuncData
  F_Chain_parent : Fun K "parent" "Chain.parent" s_Chain_parent f_Chain_parent d_Chain_parent
  b_Chain_parent : Binds K d_Chain_parent ["self", "number"] []
  f_Chain_final : Addr
  d_Chain_final : FuncData
  F_Chain_final : Fun K "final" "Chain.final" s_Chain_final f_Chain_final d_Chain_final
  b_Chain_final : Binds K d_Chain_final ["self"] []
  f_Chain_tips : Addr
  d_Chain_tips : FuncData
  F_Chain_tips : Fun K "tips" "Chain.tips" s_Chain_tips f_Chain_tips d_Chain_tips
  b_Chain_tips : Binds K d_Chain_tips ["self"] []
  f_Chain_check_block : Addr
  d_Chain_check_block : FuncData
  F_Chain_check_block : Fun K "_check_block" "Chain._check_block" s_Chain_check_block f_Chain_check_block d_Chain_check_block
  b_Chain_check_block : Binds K d_Chain_check_block ["self", "number"] []
  f_Notary_init : Addr
  d_Notary_init : FuncData
  F_Notary_init : Fun K "__init__" "Notary.__init__" s_Notary_init f_Notary_init d_Notary_init
  b_Notary_init : Binds K d_Notary_init ["self"] []
  f_L_pot : Addr
  d_L_pot : FuncData
  F_L_pot : Fun K "_law_pot" "_law_pot" s_L_pot f_L_pot d_L_pot
  b_L_pot : Binds K d_L_pot ["script"] []
  g_L_pot : mg "_law_pot" = some (.ref f_L_pot)
  f_L_next : Addr
  d_L_next : FuncData
  F_L_next : Fun K "_law_next" "_law_next" s_L_next f_L_next d_L_next
  b_L_next : Binds K d_L_next ["pot", "limit"] []
  g_L_next : mg "_law_next" = some (.ref f_L_next)
  f_L_set : Addr
  d_L_set : FuncData
  F_L_set : Fun K "_law_set" "_law_set" s_L_set f_L_set d_L_set
  b_L_set : Binds K d_L_set ["pot", "most"] []
  g_L_set : mg "_law_set" = some (.ref f_L_set)
  f_L_config : Addr
  d_L_config : FuncData
  F_L_config : Fun K "_law_config" "_law_config" s_L_config f_L_config d_L_config
  b_L_config : Binds K d_L_config ["pot"] []
  g_L_config : mg "_law_config" = some (.ref f_L_config)
  f_L_made : Addr
  d_L_made : FuncData
  F_L_made : Fun K "_law_made" "_law_made" s_L_made f_L_made d_L_made
set_option genInjectivity false in
set_option genSizeOf false in
structure Txt4 (K : PySem.W.Frag) (mg : Str → Option Value) extends Txt3 K mg where
  b_L_made : Binds K d_L_made ["parts"] []
  g_L_made : mg "_law_made" = some (.ref f_L_made)
  f_L_line : Addr
  d_L_line : FuncData
  F_L_line : Fun K "_law_line" "_law_line" s_L_line f_L_line d_L_line
  b_L_line : Binds K d_L_line ["chain", "number"] []
  g_L_line : mg "_law_line" = some (.ref f_L_line)
  f_L_deep : Addr
  d_L_deep : FuncData
  F_L_deep : Fun K "_law_deep" "_law_deep" s_L_deep f_L_deep d_L_deep
  b_L_deep : Binds K d_L_deep ["chain", "depth"] []
  g_L_deep : mg "_law_deep" = some (.ref f_L_deep)
  f_law : Addr
  d_law : FuncData
  F_law : Fun K "law" "law" s_law f_law d_law
  b_law : Binds K d_law ["script"] []
  g_law : mg "law" = some (.ref f_law)
  kb7_Config_init : KBn K d_Config_init ["self", "tokens", "balances", "guards", "depth", "window", "delay", "bundle"] 1 ["tokens", "balances", "guards", "depth", "window", "delay", "bundle"] (fun us ws => us ++ ws) (fun vs zs => vs ++ zs)
  C_Blocks : Addr
  cl_Blocks : Cls K C_Blocks
  g_Blocks : mg "Blocks" = some (.ref C_Blocks)
  mk_Blocks : Mk K C_Blocks f_Blocks_init
  m_Blocks_has : Meth K C_Blocks "has" f_Blocks_has
  m_Blocks_numbers : Meth K C_Blocks "numbers" f_Blocks_numbers
  m_Blocks_parent : Meth K C_Blocks "parent" f_Blocks_parent
  m_Blocks_place : Meth K C_Blocks "place" f_Blocks_place
  m_Blocks_final : Meth K C_Blocks "final" f_Blocks_final
  m_Blocks_is_live : Meth K C_Blocks "is_live" f_Blocks_is_live
  m_Blocks_live_tips : Meth K C_Blocks "live_tips" f_Blocks_live_tips
  m_Blocks_below : Meth K C_Blocks "_below" f_Blocks_below
  n_Blocks_depth : NoAttr K C_Blocks "_depth"
  n_Blocks_parents : NoAttr K C_Blocks "_parents"
  n_Blocks_heights : NoAttr K C_Blocks "_heights"
  n_Blocks_tips : NoAttr K C_Blocks "_tips"
  n_Blocks_final : NoAttr K C_Blocks "_final"
  C_BridgeError : Addr
  g_BridgeError : mg "BridgeError" = some (.ref C_BridgeError)
  xe_BridgeError : PySem.W.excIn K C_BridgeError [.type "ValueError", .type "Exception", .type "BaseException", .type "object"] "ValueError.__new__" = true
  ke_BridgeError : PySem.W.keepIn K (.ref C_BridgeError) = true
  be_BridgeError : PySem.W.subIn K (.ref C_BridgeError) (.type "BaseException") = some true
  te_BridgeError : PySem.W.typeIn K (.ref C_BridgeError) = some (.type "type")
  ie_BridgeError : PySem.W.isClsIn K C_BridgeError = true
  se_BridgeError : PySem.W.subIn K (.ref C_BridgeError) (.ref C_BridgeError) = some true
  hd_BridgeError : PySem.W.hasDictIn K C_BridgeError = true
  C_UnknownParent : Addr
  g_UnknownParent : mg "UnknownParent" = some (.ref C_UnknownParent)
  xe_UnknownParent : PySem.W.excIn K C_UnknownParent [.type "ValueError", .type "Exception", .type "BaseException", .type "object"] "ValueError.__new__" = true
  ke_UnknownParent : PySem.W.keepIn K (.ref C_UnknownParent) = true
  be_UnknownParent : PySem.W.subIn K (.ref C_UnknownParent) (.type "BaseException") = some true
  te_UnknownParent : PySem.W.typeIn K (.ref C_UnknownParent) = some (.type "type")
  ie_UnknownParent : PySem.W.isClsIn K C_UnknownParent = true
  se_UnknownParent : PySem.W.subIn K (.ref C_UnknownParent) (.ref C_UnknownParent) = some true
  ue_UnknownParent : PySem.W.subIn K (.ref C_UnknownParent) (.ref C_BridgeError) = some true
  C_DuplicateBlock : Addr
  g_DuplicateBlock : mg "DuplicateBlock" = some (.ref C_DuplicateBlock)
  xe_DuplicateBlock : PySem.W.excIn K C_DuplicateBlock [.type "ValueError", .type "Exception", .type "BaseException", .type "object"] "ValueError.__new__" = true
  ke_DuplicateBlock : PySem.W.keepIn K (.ref C_DuplicateBlock) = true
  be_DuplicateBlock : PySem.W.subIn K (.ref C_DuplicateBlock) (.type "BaseException") = some true
  te_DuplicateBlock : PySem.W.typeIn K (.ref C_DuplicateBlock) = some (.type "type")
  ie_DuplicateBlock : PySem.W.isClsIn K C_DuplicateBlock = true
set_option genInjectivity false in
set_option genSizeOf false in
structure Txt5 (K : PySem.W.Frag) (mg : Str → Option Value) extends Txt4 K mg where
  se_DuplicateBlock : PySem.W.subIn K (.ref C_DuplicateBlock) (.ref C_DuplicateBlock) = some true
  ue_DuplicateBlock : PySem.W.subIn K (.ref C_DuplicateBlock) (.ref C_BridgeError) = some true
  C_ConflictsWithFinal : Addr
  g_ConflictsWithFinal : mg "ConflictsWithFinal" = some (.ref C_ConflictsWithFinal)
  xe_ConflictsWithFinal : PySem.W.excIn K C_ConflictsWithFinal [.type "ValueError", .type "Exception", .type "BaseException", .type "object"] "ValueError.__new__" = true
  ke_ConflictsWithFinal : PySem.W.keepIn K (.ref C_ConflictsWithFinal) = true
  be_ConflictsWithFinal : PySem.W.subIn K (.ref C_ConflictsWithFinal) (.type "BaseException") = some true
  te_ConflictsWithFinal : PySem.W.typeIn K (.ref C_ConflictsWithFinal) = some (.type "type")
  ie_ConflictsWithFinal : PySem.W.isClsIn K C_ConflictsWithFinal = true
  se_ConflictsWithFinal : PySem.W.subIn K (.ref C_ConflictsWithFinal) (.ref C_ConflictsWithFinal) = some true
  ue_ConflictsWithFinal : PySem.W.subIn K (.ref C_ConflictsWithFinal) (.ref C_BridgeError) = some true
  C_Config : Addr
  cl_Config : Cls K C_Config
  g_Config : mg "Config" = some (.ref C_Config)
  mk_Config : Mk K C_Config f_Config_init
  m_Config_check_token : Meth K C_Config "check_token" f_Config_check_token
  m_Config_home : Meth K C_Config "home" f_Config_home
  m_Config_scale : Meth K C_Config "scale" f_Config_scale
  m_Config_opening : Meth K C_Config "opening" f_Config_opening
  m_Config_guards : Meth K C_Config "guards" f_Config_guards
  m_Config_depth : Meth K C_Config "depth" f_Config_depth
  m_Config_window : Meth K C_Config "window" f_Config_window
  m_Config_delay : Meth K C_Config "delay" f_Config_delay
  m_Config_bundle : Meth K C_Config "bundle" f_Config_bundle
  n_Config_tokens : NoAttr K C_Config "_tokens"
  n_Config_balances : NoAttr K C_Config "_balances"
  n_Config_guards : NoAttr K C_Config "_guards"
  n_Config_depth : NoAttr K C_Config "_depth"
  n_Config_window : NoAttr K C_Config "_window"
  n_Config_delay : NoAttr K C_Config "_delay"
  n_Config_bundle : NoAttr K C_Config "_bundle"
  C_Sheet : Addr
  cl_Sheet : Cls K C_Sheet
  g_Sheet : mg "Sheet" = some (.ref C_Sheet)
  mk_Sheet : Mk K C_Sheet f_Sheet_init
  m_Sheet_copy : Meth K C_Sheet "copy" f_Sheet_copy
  n_Sheet_config : NoAttr K C_Sheet "_config"
  n_Sheet_side : NoAttr K C_Sheet "_side"
  n_Sheet_balances : NoAttr K C_Sheet "_balances"
  n_Sheet_bonds : NoAttr K C_Sheet "_bonds"
  n_Sheet_vaults : NoAttr K C_Sheet "_vaults"
  C_State : Addr
  cl_State : Cls K C_State
  g_State : mg "State" = some (.ref C_State)
  mk_State : Mk K C_State f_State_init
  m_State_copy : Meth K C_State "copy" f_State_copy
  m_State_rise : Meth K C_State "rise" f_State_rise
  n_State_config : NoAttr K C_State "_config"
  n_State_side : NoAttr K C_State "_side"
  n_State_sheet : NoAttr K C_State "_sheet"
  n_State_height : NoAttr K C_State "_height"
  n_State_sets : NoAttr K C_State "_sets"
  n_State_stops : NoAttr K C_State "_stops"
  n_State_stopped : NoAttr K C_State "_stopped"
  n_State_transfers : NoAttr K C_State "_transfers"
  n_State_returned : NoAttr K C_State "_returned"
  n_State_taken : NoAttr K C_State "_taken"
  n_State_waiting : NoAttr K C_State "_waiting"
  n_State_deliveries : NoAttr K C_State "_deliveries"
  C_Chain : Addr
set_option genInjectivity false in
set_option genSizeOf false in
structure Txt (K : PySem.W.Frag) (mg : Str → Option Value) extends Txt5 K mg where
  cl_Chain : Cls K C_Chain
  g_Chain : mg "Chain" = some (.ref C_Chain)
  mk_Chain : Mk K C_Chain f_Chain_init
  m_Chain_add : Meth K C_Chain "add" f_Chain_add
  m_Chain_numbers : Meth K C_Chain "numbers" f_Chain_numbers
  m_Chain_parent : Meth K C_Chain "parent" f_Chain_parent
  m_Chain_final : Meth K C_Chain "final" f_Chain_final
  m_Chain_tips : Meth K C_Chain "tips" f_Chain_tips
  m_Chain_check_block : Meth K C_Chain "_check_block" f_Chain_check_block
  n_Chain_config : NoAttr K C_Chain "_config"
  n_Chain_notary : NoAttr K C_Chain "_notary"
  n_Chain_blocks : NoAttr K C_Chain "_blocks"
  n_Chain_orders : NoAttr K C_Chain "_orders"
  n_Chain_states : NoAttr K C_Chain "_states"
  n_Chain_receipts : NoAttr K C_Chain "_receipts"
  n_Chain_events : NoAttr K C_Chain "_events"
  C_Notary : Addr
  cl_Notary : Cls K C_Notary
  g_Notary : mg "Notary" = some (.ref C_Notary)
  mk_Notary : Mk K C_Notary f_Notary_init
  n_Notary_table : NoAttr K C_Notary "_table"
  n_Notary_numbers : NoAttr K C_Notary "_numbers"
  t_ACCOUNT_LENGTH : Tok
  c_ACCOUNT_LENGTH : mg "ACCOUNT_LENGTH" = some (.int 20 t_ACCOUNT_LENGTH)
  t_BARRED_CODE : Tok
  c_BARRED_CODE : mg "BARRED_CODE" = some (.int 37 t_BARRED_CODE)
  t_FIRST : Tok
  c_FIRST : mg "FIRST" = some (.int 0 t_FIRST)
  t_FIRST_CODE : Tok
  c_FIRST_CODE : mg "FIRST_CODE" = some (.int 32 t_FIRST_CODE)
  t_LAST_CODE : Tok
  c_LAST_CODE : mg "LAST_CODE" = some (.int 126 t_LAST_CODE)
  t_MOST_IN_BUNDLE : Tok
  c_MOST_IN_BUNDLE : mg "MOST_IN_BUNDLE" = some (.int 8 t_MOST_IN_BUNDLE)
  a_SIDES : Addr
  c_SIDES : mg "SIDES" = some (.ref a_SIDES)
  k_SIDES : SqTK K a_SIDES [.str "west", .str "east"]
  t_TOKEN_LENGTH : Tok
  c_TOKEN_LENGTH : mg "TOKEN_LENGTH" = some (.int 12 t_TOKEN_LENGTH)
  z_abs : mg "abs" = none
  z_any : mg "any" = none
  z_bool : mg "bool" = none
  z_dict : mg "dict" = none
  z_int : mg "int" = none
  z_isinstance : mg "isinstance" = none
  z_len : mg "len" = none
  z_list : mg "list" = none
  z_max : mg "max" = none
  z_min : mg "min" = none
  z_ord : mg "ord" = none
  z_range : mg "range" = none
  z_sorted : mg "sorted" = none
  z_str : mg "str" = none
  z_tuple : mg "tuple" = none
theorem Txt.ex_ConflictsWithFinal {K : PySem.W.Frag} {mg : Str → Option Value} (T : Txt K mg) : PySem.W.exmOne K (.ref T.C_ConflictsWithFinal) (.ref T.C_BridgeError) = some true := PySem.W.exm_ref T.be_BridgeError T.hd_BridgeError T.te_BridgeError T.ue_ConflictsWithFinal
/-! the law's own numbers -/
def PotAt (H : Hp) (p l : Addr) : Prop := ∃ (ns : List Int) (i c s : Int), H p = some (.lst [.ref l, .int i, .int c, .int s]) ∧ H l = some (.lst (ns.map V.int)) ∧ 0 ≤ i ∧ 0 ≤ c ∧ 0 ≤ s ∧ s < 2147483647 ∧ ns.length ≤ 1000 ∧ p ≠ l
theorem PotAt.at {H : Hp} {p l : Addr} (h : PotAt H p l) : ∃ o, H p = some o := by
  obtain ⟨ns, i, c, s, h1, _⟩ := h; exact ⟨_, h1⟩
theorem PotAt.atl {H : Hp} {p l : Addr} (h : PotAt H p l) : ∃ o, H l = some o := by
  obtain ⟨ns, i, c, s, _, h1, _⟩ := h; exact ⟨_, h1⟩
theorem PotAt.same {H H' : Hp} {p l : Addr} (h : PotAt H p l) (e : Same H H') : PotAt H' p l := by
  obtain ⟨ns, i, c, s, h1, h2, r⟩ := h; exact ⟨ns, i, c, s, e _ _ h1, e _ _ h2, r⟩
theorem PotAt.upd {H : Hp} {p l a : Addr} {o : HO} (h : PotAt H p l) (n1 : a ≠ p) (n2 : a ≠ l) : PotAt (L2.upd H a o) p l := by
  obtain ⟨ns, i, c, s, h1, h2, r⟩ := h; exact ⟨ns, i, c, s, upd_other n1.symm h1, upd_other n2.symm h2, r⟩
theorem PotAt.new {H : Hp} {p l a : Addr} {o : HO} (h : PotAt H p l) (n : H a = none) : PotAt (L2.upd H a o) p l := by
  obtain ⟨ns, i, c, s, h1, h2, r⟩ := h; exact ⟨ns, i, c, s, upd_new n h1, upd_new n h2, r⟩
theorem PotAt.nep {H : Hp} {p l a : Addr} (h : PotAt H p l) (n : H a = none) : a ≠ p := by
  obtain ⟨o, h1⟩ := h.at; exact (ne_of_none h1 n).symm
theorem PotAt.nel {H : Hp} {p l a : Addr} (h : PotAt H p l) (n : H a = none) : a ≠ l := by
  obtain ⟨o, h1⟩ := h.atl; exact (ne_of_none h1 n).symm
def sp_pot (K : PySem.W.Frag) : Sp := fun vs H Q _ => ∃ (a : Addr) (ns : List Int), vs = [.ref a] ∧ SqL K H a (ns.map V.int) ∧ ns.length ≤ 63 ∧ ∀ (p l : Addr) (H' : Hp), H p = none → H l = none → PotAt H' p l → Same H H' → Q (.ref p) H'
def sp_next : Sp := fun vs H Q _ => ∃ (p l : Addr) (n : Int), vs = [.ref p, .int n] ∧ PotAt H p l ∧ 0 < n ∧ n < 1000000000 ∧ ∀ (r : Int) (H' : Hp), 0 ≤ r → r < n → PotAt H' p l → Kp p H H' → Q (.int r) H'
section
variable {P : Program} {w : World} {K : PySem.W.Frag} {mg : Str → Option Value} {base : Heap}
theorem map_at {ns : List Int} {i : Nat} {x : V} (h : (ns.map V.int)[i]? = some x) : ∃ z, x = .int z := by
  rw [List.getElem?_map] at h
  cases e : ns[i]? with
  | none => rw [e] at h; cases h
  | some z => rw [e] at h; exact ⟨z, (Option.some.inj h).symm⟩
theorem ok_L_pot (T : Txt K mg) : FnOk P w K mg base CX0 1 T.f_L_pot T.d_L_pot ["script"] (sp_pot K) := by
  refine T.F_L_pot.ok sc_L_pot (fun vs H Q E h => ?_) (fun cdv A outer s H vs Q E hr h => ?_)
  · obtain ⟨a, ns, rfl, _⟩ := h; rfl
  · obtain ⟨a, ns, rfl, hS, hlen, k⟩ := h
    refine ⟨_, (pss_cons (ps_set (i := 1) sc_L_pot.nd rfl (Or.inl rfl) pe_int)
      (pss_cons (ps_for PassesOwn.never rfl (pi_list (pv 0)) (pg_name (i := 2) sc_L_pot.nd rfl (Or.inl rfl))
        (pss_one (ps_set (i := 1) sc_L_pot.nd rfl (Or.inl rfl) (pe_op op_mod (pe_callTy cq_int1 (by rfl) T.z_int boot_int (pa_cons (pe_op op_add (pe_op op_mul (pv 1) pe_int) (pv 2)) pa_nil)) pe_int))))
      (pss_one (ps_ret (pe_lst (pa_cons (pe_callTy cq_listOf (by rfl) T.z_list boot_list (pa_cons (pv 0) pa_nil)) (pa_cons pe_int (pa_cons pe_int (pa_cons (pv 1) pa_nil))))))))), ?_⟩
    (dsimp only [cxOf, Cx.nox, Cx.wish, L2.start, List.map, List.length, List.replicate, List.cons_append, List.nil_append, List.append_eq, Nat.reduceSub, Nat.reduceAdd])
    walk_at "my_rd"
    refine q_forL hS (fun i σ H2 => ∃ (z : Int) (v : Option V), σ = [some (.ref a), some (.int z), v] ∧ H2 = H ∧ 0 ≤ z ∧ z < 2147483647) ⟨1, none, rfl, rfl, by omega, by omega⟩ (fun i σ H2 _ ⟨_, _, _, e, _⟩ => e ▸ hS) ?_ ?_
    · rintro i x σ H2 hx ⟨z, v, rfl, rfl, h0, h1⟩
      obtain ⟨y, rfl⟩ := map_at hx
      walk_at "my_rd"
      exact ⟨_, _, rfl, rfl, Int.emod_nonneg _ (by decide), Int.emod_lt_of_pos _ (by decide)⟩
    · rintro σ H2 ⟨z, v, rfl, rfl, h0, h1⟩
      walk_at "my_rd"
      refine q_listL hS fun l nl => ?_
      walk_at "my_rd"
      refine q_lstK (Nat.le_of_ble_eq_true rfl) fun p np => ?_
      walk_at "my_rd"
      refine k p l _ (upd_none_back np) nl ⟨ns, 0, 0, z, upd_same, upd_new np upd_same, by omega, by omega, h0, h1, by omega, ?_⟩ (Same.new (Same.new (Same.refl _) nl) (upd_none_back np))
      exact upd_none_ne np
theorem ok_L_next (T : Txt K mg) : FnOk P w K mg base CX0 1 T.f_L_next T.d_L_next ["pot", "limit"] sp_next := by
  refine T.F_L_next.ok sc_L_next (fun vs H Q E h => ?_) (fun cdv A outer s H vs Q E hr h => ?_)
  · obtain ⟨p, l, n, rfl, _⟩ := h; rfl
  · obtain ⟨p, l, n, rfl, ⟨ns, i, c, z, hp, hl, hi, hc, hz0, hz1, hns, hpl⟩, hn, hn2, k⟩ := h
    refine ⟨_, (Evl.pss_cut (ps_if (PW.pt (pw_and (pt_cmpR op_eq (pe_ix ix_list (pv 0) pe_int (fun _ _ => rfl)) pe_int (nomark _)) (pw_and1 (pt_cmpR op_lt (pe_ix ix_list (pv 0) pe_int (fun _ _ => rfl)) (pe_callB cq_len (by rfl) T.z_len boot_len (pa_cons (pe_ix ix_list (pv 0) pe_int (fun _ _ => rfl)) pa_nil)) (nomark _))))) (pss_cons (ps_set (i := 3) sc_L_next.nd rfl (Or.inl rfl) (pe_callB cq_abs (by rfl) T.z_abs boot_abs (pa_cons (pe_callTy cq_int1 (by rfl) T.z_int boot_int (pa_cons (pe_ix ix_list (pe_ix ix_list (pv 0) pe_int (fun _ _ => rfl)) (pe_ix ix_list (pv 0) pe_int (fun _ _ => rfl)) (fun _ _ => rfl)) pa_nil)) pa_nil)))
      (pss_cons (ps_asg (pe_op op_add (pe_ix ix_list (pv 0) pe_int (fun _ _ => rfl)) pe_int) (pg_sub (pv 0) pe_int set_list))
      (pss_cons (ps_if (pt_cmpR op_lt (pv 3) (pe_op op_pow pe_int pe_int) (nomark _)) (pss_one (ps_ret (pe_op op_mod (pe_callTy cq_int1 (by rfl) T.z_int boot_int (pa_cons (pv 3) pa_nil)) (pv 1)))) pss_nil)
      (pss_one (ps_asg (pv 3) (pg_sub (pv 0) pe_int set_list)))))) pss_nil)
      (pss_cons (ps_if (pt_cmpR op_gt (pe_ix ix_list (pv 0) pe_int (fun _ _ => rfl)) pe_int (nomark _)) (pss_cons (ps_set (i := 4) sc_L_next.nd rfl (Or.inl rfl) (pe_op op_mod (pe_callTy cq_int1 (by rfl) T.z_int boot_int (pa_cons (pe_ix ix_list (pv 0) pe_int (fun _ _ => rfl)) pa_nil)) (pv 1)))
      (pss_cons (ps_asg (pe_op op_fdiv (pe_ix ix_list (pv 0) pe_int (fun _ _ => rfl)) (pv 1)) (pg_sub (pv 0) pe_int set_list))
      (pss_one (ps_ret (pv 4))))) pss_nil)
      (pss_cons (ps_asg (pe_op op_mod (pe_callTy cq_int1 (by rfl) T.z_int boot_int (pa_cons (pe_op op_add (pe_op op_mul (pe_ix ix_list (pv 0) pe_int (fun _ _ => rfl)) pe_int) pe_int) pa_nil)) pe_int) (pg_sub (pv 0) pe_int set_list))
      (pss_cons (ps_set (i := 2) sc_L_next.nd rfl (Or.inl rfl) (pe_op op_mod (pe_callTy cq_int1 (by rfl) T.z_int boot_int (pa_cons (pe_op op_add (pe_op op_mul (pe_ix ix_list (pv 0) pe_int (fun _ _ => rfl)) pe_int) (pe_op op_fdiv (pe_ix ix_list (pv 0) pe_int (fun _ _ => rfl)) pe_int)) pa_nil)) pe_int))
      (pss_one (ps_ret (pe_op op_mod (pe_callTy cq_int1 (by rfl) T.z_int boot_int (pa_cons (pv 2) pa_nil)) (pv 1)))))))), ?_⟩
    (dsimp only [cxOf, Cx.nox, Cx.wish, L2.start, List.map, List.length, List.replicate, List.cons_append, List.nil_append, List.append_eq, Nat.reduceSub, Nat.reduceAdd])
    refine q_cut (Mid := fun σ' H' => ∃ (cell : Option V) (i c : Int), σ' = [some (.ref p), some (.int n), none, cell, none] ∧ H' p = some (.lst [.ref l, .int i, .int c, .int z]) ∧ H' l = some (.lst (ns.map V.int)) ∧ 0 ≤ i ∧ 0 ≤ c ∧ Kp p H H') ?_ ?_
    · walk_at "my_rd"
      refine q_and2 (fun h1 => ?_) (fun _ => ?_)
      · walk_at "my_rd"
        refine q_if2 (fun h2 => ?_) (fun _ => ?_)
        · have h2 := dec_t h2
          rw [List.length_map] at h2
          have hi2 : i.toNat < ns.length := by omega
          have ha : atI (ns.map V.int) i = some (V.int ns[i.toNat]) := at_int (n := i.toNat) (by omega) (by rw [List.getElem?_map, List.getElem?_eq_getElem hi2]; rfl)
          walk_at "my_rd"
          refine q_ixLt hl ha ?_
          walk_at "my_rd"
          refine q_if2 (fun h3 => ?_) (fun h3 => ?_)
          · walk_at "my_rd"
            refine k _ _ (Int.emod_nonneg _ (by omega)) (Int.emod_lt_of_pos _ hn) ⟨ns, i + 1, c, z, upd_same, upd_other hpl.symm hl, by omega, hc, hz0, hz1, hns, hpl⟩ (Kp.upd Kp.refl)
          · walk_at "my_rd"
            refine ⟨_, i + 1, _, rfl, upd_same, upd_other hpl.symm (upd_other hpl.symm hl), by omega, ?_, Kp.upd (Kp.upd Kp.refl)⟩
            split <;> omega
        · walk_at "my_rd"
          exact ⟨none, i, c, rfl, hp, hl, hi, hc, Kp.refl⟩
      · walk_at "my_rd"
        exact ⟨none, i, c, rfl, hp, hl, hi, hc, Kp.refl⟩
    · clear hp hl hi hc i c
      rintro σ' H2 ⟨cell, i, c, rfl, hp, hl, hi, hc, kp⟩
      walk_at "my_rd"
      refine q_if2 (fun h1 => ?_) (fun h1 => ?_)
      · have h1 := dec_t h1
        walk_at "my_rd"
        refine k _ _ (Int.emod_nonneg _ (by omega)) (Int.emod_lt_of_pos _ hn) ⟨ns, i, c / n, z, upd_same, upd_other hpl.symm hl, hi, Int.ediv_nonneg hc (by omega), hz0, hz1, hns, hpl⟩ (Kp.upd kp)
      · walk_at "my_rd"
        refine k _ _ (Int.emod_nonneg _ (by omega)) (Int.emod_lt_of_pos _ hn) ⟨ns, i, c, _, upd_same, upd_other hpl.symm hl, hi, hc, Int.emod_nonneg _ (by decide), Int.emod_lt_of_pos _ (by decide), hns, hpl⟩ (Kp.upd kp)
end

/-! sets of guards as data: names with weights -/
abbrev Gs := List (Str × Int)
def wsum (gs : Gs) : Int := (gs.map (·.2)).sum
structure PairsAt (H : Hp) (xs : List V) (gs : Gs) : Prop where
  len : xs.length = gs.length
  at_ : ∀ (i : Nat) (g : Str × Int), gs[i]? = some g → ∃ a, xs[i]? = some (.ref a) ∧ H a = some (.tup [.str g.1, .int g.2])
theorem PairsAt.nil {H : Hp} : PairsAt H [] [] := ⟨rfl, fun i g h => by simp at h⟩
theorem PairsAt.mono {H H' : Hp} {xs : List V} {gs : Gs} (h : PairsAt H xs gs) (e : ∀ b ys, H b = some (.tup ys) → H' b = some (.tup ys)) : PairsAt H' xs gs :=
  ⟨h.len, fun i g hg => by obtain ⟨a, h1, h2⟩ := h.at_ i g hg; exact ⟨a, h1, e _ _ h2⟩⟩
theorem PairsAt.same {H H' : Hp} {xs : List V} {gs : Gs} (h : PairsAt H xs gs) (e : Same H H') : PairsAt H' xs gs := h.mono fun b ys q => e b _ q
theorem PairsAt.item {H : Hp} {xs : List V} {gs : Gs} (h : PairsAt H xs gs) {i : Nat} {x : V} (hx : xs[i]? = some x) : ∃ g a, gs[i]? = some g ∧ x = .ref a ∧ H a = some (.tup [.str g.1, .int g.2]) := by
  have hi : i < gs.length := by rw [← h.len]; exact (List.getElem?_eq_some_iff.mp hx).1
  obtain ⟨a, h1, h2⟩ := h.at_ i gs[i] (List.getElem?_eq_getElem hi)
  exact ⟨gs[i], a, List.getElem?_eq_getElem hi, Option.some.inj (hx.symm.trans h1), h2⟩
theorem PairsAt.snoc {H : Hp} {xs : List V} {gs : Gs} {a : Addr} {g : Str × Int} (h : PairsAt H xs gs) (ha : H a = some (.tup [.str g.1, .int g.2])) : PairsAt H (xs ++ [.ref a]) (gs ++ [g]) := by
  refine ⟨by rw [List.length_append, List.length_append, h.len]; rfl, fun i g' hg => ?_⟩
  by_cases hi : i < gs.length
  · rw [List.getElem?_append_left hi] at hg
    rw [List.getElem?_append_left (by rw [h.len]; exact hi)]
    exact h.at_ i g' hg
  · have hi' : i = gs.length := by
      have := (List.getElem?_eq_some_iff.mp hg).1
      rw [List.length_append] at this
      simp at this
      omega
    subst hi'
    rw [List.getElem?_append_right (Nat.le_refl _)] at hg
    simp at hg
    subst hg
    refine ⟨a, ?_, ha⟩
    rw [List.getElem?_append_right (by rw [h.len]; exact Nat.le_refl _), h.len]
    simp
theorem take_snoc {α : Type} {l : List α} {i : Nat} {x : α} (h : l[i]? = some x) : l.take (i + 1) = l.take i ++ [x] := by
  rw [List.take_add_one, h]; rfl
theorem wsum_snoc (gs : Gs) (g : Str × Int) : wsum (gs ++ [g]) = wsum gs + g.2 := by
  unfold wsum; rw [List.map_append, List.sum_append]; simp
theorem wsum_nonneg {gs : Gs} (h : ∀ g ∈ gs, 1 ≤ g.2) : 0 ≤ wsum gs := by
  induction gs with
  | nil => exact Int.le_refl _
  | cons g r ih =>
    have h1 := h g (List.mem_cons_self ..)
    have h2 := ih fun x hx => h x (List.mem_cons_of_mem _ hx)
    show 0 ≤ (g.2 :: r.map (·.2)).sum
    rw [List.sum_cons]
    have h3 : 0 ≤ (r.map (·.2)).sum := h2
    omega
theorem wsum_pos {gs : Gs} (h : ∀ g ∈ gs, 1 ≤ g.2) (hn : gs ≠ []) : 1 ≤ wsum gs := by
  cases gs with
  | nil => exact absurd rfl hn
  | cons g r =>
    have h1 := h g (List.mem_cons_self ..)
    have h2 : 0 ≤ wsum r := wsum_nonneg fun x hx => h x (List.mem_cons_of_mem _ hx)
    show 1 ≤ (g.2 :: r.map (·.2)).sum
    rw [List.sum_cons]
    have h3 : 0 ≤ (r.map (·.2)).sum := h2
    omega
theorem wsum_le {gs : Gs} {m : Int} (h : ∀ g ∈ gs, g.2 ≤ m) : wsum gs ≤ m * gs.length := by
  induction gs with
  | nil => show (0 : Int) ≤ m * 0; omega
  | cons g r ih =>
    have h1 := h g (List.mem_cons_self ..)
    have h2 := ih fun x hx => h x (List.mem_cons_of_mem _ hx)
    have e : wsum (g :: r) = g.2 + wsum r := by show (g.2 :: r.map (·.2)).sum = _; rw [List.sum_cons]; rfl
    rw [e, List.length_cons, Int.natCast_add, Int.mul_add]
    omega
def thr (gs : Gs) : Int := wsum gs * 2 / 3 + 1
/-- a set's total, its bounds -/
structure GsOk (gs : Gs) : Prop where
  pos : ∀ g ∈ gs, 1 ≤ g.2
  top : ∀ g ∈ gs, g.2 ≤ 1000000
  few : gs.length ≤ 1000
theorem GsOk.lo {gs : Gs} (h : GsOk gs) : 0 ≤ wsum gs := wsum_nonneg h.pos
theorem GsOk.hi {gs : Gs} (h : GsOk gs) : wsum gs ≤ 1000000000 := by
  have h1 := wsum_le h.top
  have h2 := h.few
  omega
theorem GsOk.take {gs : Gs} (h : GsOk gs) (i : Nat) : GsOk (gs.take i) :=
  ⟨fun g hg => h.pos g (List.mem_of_mem_take hg), fun g hg => h.top g (List.mem_of_mem_take hg), by rw [List.length_take]; have := h.few; omega⟩
def sp_total (K : PySem.W.Frag) : Sp := fun vs H Q _ => ∃ (a : Addr) (xs : List V) (gs : Gs), vs = [.ref a] ∧ SqT K H a xs ∧ PairsAt H xs gs ∧ GsOk gs ∧ ∀ H', Same H H' → Q (.int (wsum gs)) H'
def sp_threshold (K : PySem.W.Frag) : Sp := fun vs H Q _ => ∃ (a : Addr) (xs : List V) (gs : Gs), vs = [.ref a] ∧ SqT K H a xs ∧ PairsAt H xs gs ∧ GsOk gs ∧ ∀ H', Same H H' → Q (.int (thr gs)) H'
def sp_minority (K : PySem.W.Frag) : Sp := fun vs H Q _ => ∃ (a : Addr) (xs : List V) (gs : Gs), vs = [.ref a] ∧ SqT K H a xs ∧ PairsAt H xs gs ∧ GsOk gs ∧ ∀ H', Same H H' → Q (.int (wsum gs - thr gs + 1)) H'

/-! the law's sets -/
def nm (k : Nat) : Str := ("g" : Str) ++ (toString (k : Int) : Str)
def allNames : List Str := (List.range 7).map nm
theorem allNames_nodup : allNames.Nodup := by decide +kernel
theorem allNames_len : allNames.length = 7 := rfl
/-- a drawn set -/
structure Drawn (gs : Gs) : Prop where
  ne : gs ≠ []
  few : gs.length ≤ 7
  nd : (gs.map (·.1)).Nodup
  nms : ∀ g ∈ gs, g.1 ∈ allNames
  pos : ∀ g ∈ gs, 1 ≤ g.2
  top : ∀ g ∈ gs, g.2 ≤ 50
theorem Drawn.ok {gs : Gs} (h : Drawn gs) : GsOk gs := ⟨h.pos, fun g hg => by have := h.top g hg; omega, by have := h.few; omega⟩
def sp_Lset : Sp := fun vs H Q _ => ∃ (p l : Addr) (m : Int), vs = [.ref p, .int m] ∧ PotAt H p l ∧ 0 < m ∧ m ≤ 7 ∧ ∀ (a : Addr) (xs : List V) (gs : Gs) (H' : Hp), H a = none → H' a = some (.tup xs) → PairsAt H' xs gs → Drawn gs → (gs.length : Int) ≤ m → PotAt H' p l → Kp p H H' → Q (.ref a) H'
theorem perm_eraseIdx {α : Type} : ∀ {l : List α} {n : Nat} {x : α}, l[n]? = some x → (x :: l.eraseIdx n).Perm l
  | [], _, _, h => by simp at h
  | a :: r, 0, x, h => by
    have e : a = x := Option.some.inj h
    subst e
    exact List.Perm.refl _
  | a :: r, n + 1, x, h => by
    have ih := perm_eraseIdx (l := r) (n := n) (x := x) h
    show (x :: a :: r.eraseIdx n).Perm (a :: r)
    exact (List.Perm.swap a x _).trans (List.Perm.cons a ih)
theorem map_erase {α β : Type} (f : α → β) : ∀ (l : List α) (n : Nat), (l.map f).eraseIdx n = (l.eraseIdx n).map f
  | [], _ => rfl
  | _ :: _, 0 => rfl
  | a :: r, n + 1 => by
    show f a :: (r.map f).eraseIdx n = f a :: (r.eraseIdx n).map f
    rw [map_erase f r n]
theorem PairsAt.updL {H : Hp} {xs zs ys : List V} {gs : Gs} {F : Addr} (h : PairsAt H xs gs) (hF : H F = some (.lst ys)) : PairsAt (upd H F (.lst zs)) xs gs :=
  h.mono fun b ws q => upd_other (ne_of q hF (by intro z; cases z)) q
theorem PairsAt.new {H : Hp} {xs : List V} {gs : Gs} {F : Addr} {o : HO} (h : PairsAt H xs gs) (hF : H F = none) : PairsAt (upd H F o) xs gs :=
  h.mono fun b ws q => upd_new hF q
theorem PairsAt.kp {H H' : Hp} {xs : List V} {gs : Gs} {p l : Addr} (h : PairsAt H xs gs) (pot : PotAt H p l) (kp : Kp p H H') : PairsAt H' xs gs :=
  h.mono fun b ws q => by
    obtain ⟨ns, i, c, s, h1, _⟩ := pot
    exact kp _ _ q (ne_of q h1 (by intro z; cases z))
theorem nm_short : ∀ k : Nat, k < 7 → (Str.ofString (toString (k : Int))).length ≤ 5 := by decide +kernel
theorem names_pop {gn ss : List Str} {x : Str} {n : Nat} (hx : ss[n]? = some x) (h : (gn ++ ss).Nodup) : ((gn ++ [x]) ++ ss.eraseIdx n).Nodup := by
  obtain ⟨hn, e⟩ := List.getElem?_eq_some_iff.mp hx
  have hp : (x :: ss.eraseIdx n).Perm ss := perm_eraseIdx hx
  rw [List.append_assoc]
  exact (List.Perm.append_left gn hp).nodup_iff.mpr h
section
variable {P : Program} {w : World} {K : PySem.W.Frag} {mg : Str → Option Value} {base : Heap}
theorem ok_L_set (T : Txt K mg) : FnOk P w K mg base CX0 2 T.f_L_set T.d_L_set ["pot", "most"] sp_Lset := by
  refine T.F_L_set.ok sc_L_set (fun vs H Q E h => ?_) (fun cdv A outer s H vs Q E hr h => ?_)
  · obtain ⟨p, l, m, rfl, _⟩ := h; rfl
  · obtain ⟨p, l, m, rfl, pot, hm, hm7, k⟩ := h
    refine ⟨_, (pss_cons (ps_setLc (i := 2) (own := [("k", 4)]) (g := (gName 4)) (tt := tYes) (te := (tOp rAddStr (tC (.str "g")) (tCB rStrInt (tCons (tVar 4) tNil)))) rfl sc_L_set.nd rfl rfl (sw_true rfl rfl rfl (by decide +kernel)) (pi_range1 (by rfl) T.z_range (pa_cons pe_int pa_nil)) (blkOk_by (own := [("k", 4)]) (N := ["pot", "most", "names", "found", "k"]) (sc := defScope s_L_set) (by decide +kernel)) (fun _ _ _ _ _ => (pg_name (i := 4) sc_L_set.nd rfl (Or.inl rfl))) (fun _ _ _ _ _ => pts_nil) (fun _ _ _ _ _ => (pe_op oq_addStr pe_str (pe_callTy cq_strInt (by rfl) T.z_str boot_str (pa_cons (pv 4) pa_nil)))))
      (pss_cons (ps_set (i := 3) sc_L_set.nd rfl (Or.inl rfl) (pe_lst pa_nil))
      (pss_cons (ps_for PassesOwn.never rfl (pi_range1 (by rfl) T.z_range (pa_cons (pe_op op_add pe_int (pe_call (ok_L_next T) (hr.mono (by decide)) (by rfl) T.g_L_next T.F_L_next.kp T.b_L_next .nil pass0 (pa_cons (pv 0) (pa_cons (pv 1) pa_nil)))) pa_nil)) (pg_name (i := 4) sc_L_set.nd rfl (Or.inl rfl))
        (pss_one (ps_expr (pe_bm PySem.F.plainAttrs_list PySem.F.slot_list_append PySem.F.type_list_append mt_append (pv 3) (pa_cons (pe_tup (pa_cons (pe_bm PySem.F.plainAttrs_list PySem.F.slot_list_pop PySem.F.type_list_pop mt_popAt (pv 2) (pa_cons (pe_call (ok_L_next T) (hr.mono (by decide)) (by rfl) T.g_L_next T.F_L_next.kp T.b_L_next .nil pass0 (pa_cons (pv 0) (pa_cons (pe_callB cq_len (by rfl) T.z_len boot_len (pa_cons (pv 2) pa_nil)) pa_nil))) pa_nil)) (pa_cons (pe_op op_add pe_int (pe_call (ok_L_next T) (hr.mono (by decide)) (by rfl) T.g_L_next T.F_L_next.kp T.b_L_next .nil pass0 (pa_cons (pv 0) (pa_cons (pe_ix ix_list (pe_lst (pa_cons pe_int (pa_cons pe_int (pa_cons pe_int pa_nil)))) (pe_call (ok_L_next T) (hr.mono (by decide)) (by rfl) T.g_L_next T.F_L_next.kp T.b_L_next .nil pass0 (pa_cons (pv 0) (pa_cons pe_int pa_nil))) (fun _ _ => rfl)) pa_nil)))) pa_nil))) pa_nil)))))
      (pss_one (ps_ret (pe_callTy cq_tupOf (by rfl) T.z_tuple boot_tuple (pa_cons (pv 3) pa_nil))))))), ?_⟩
    (dsimp only [cxOf, Cx.nox, Cx.wish, L2.start, List.map, List.length, List.replicate, List.cons_append, List.nil_append, List.append_eq, Nat.reduceSub, Nat.reduceAdd])
    walk_at "my_rd"
    refine q_lcR ⟨by decide, by decide⟩ (fun N nN => ⟨fun i H2 => Same H H2 ∧ H2 N = some (.lst (((List.range i).map nm).map V.str)), ⟨Same.new (Same.refl _) nN, upd_same⟩, ?_, ?_⟩)
    · rintro i H2 hi ⟨sm, hD⟩
      have hi7 : i < 7 := by omega
      walk_at "my_rd"
      refine ⟨rfl, ?_⟩
      walk_at "my_rd"
      refine q_strInt (Nat.lt_of_le_of_lt (Nat.log2_le_self _) (by omega)) ?_
      refine q_addStr ?_ ?_
      · have := nm_short i hi7
        have h1 : (Str.ofString "g").length = 1 := rfl
        exact Nat.le_of_lt (small1000 (by omega))
      · walk_at "my_rd"
        refine q_accK hD (by rw [List.length_map, List.length_map, List.length_range]; exact small1000 (by omega)) ⟨Same.new sm nN, ?_⟩
        rw [upd_same, List.range_succ, List.map_append, List.map_append]
        rfl
    · rintro H2 ⟨sm, hN⟩
      have hN : H2 N = some (.lst (allNames.map V.str)) := hN
      walk_at "my_rd"
      refine q_lstK (Nat.zero_le _) fun F nF => ?_
      have nNF : N ≠ F := ne_of_none hN nF
      have hF0 : H F = none := Same.free sm nF
      have nNp : N ≠ p := pot.nep nN
      have nNl : N ≠ l := pot.nel nN
      have nFp : F ≠ p := pot.nep hF0
      have nFl : F ≠ l := pot.nel hF0
      walk_at "my_rd"
      refine ⟨p, l, m, rfl, (pot.same sm).new nF, hm, by omega, fun r H4 r0 r1 pot4 kp4 => ?_⟩
      have hN4 : H4 N = some (.lst (allNames.map V.str)) := Kp.get kp4 (upd_new nF hN) nNp
      have hF4 : H4 F = some (.lst []) := Kp.get kp4 upd_same nFp
      have kp0 : Kp p H H4 := Kp.trans (Kp.new (Same.kp sm) hF0) kp4
      walk_at "my_rd"
      refine q_forR ⟨by omega, by omega⟩ (fun i σ H5 => ∃ (ss : List Str) (xs : List V) (gs : Gs) (kv : Option V), σ = [some (.ref p), some (.int m), some (.ref N), some (.ref F), kv] ∧ H5 N = some (.lst (ss.map V.str)) ∧ H5 F = some (.lst xs) ∧ PairsAt H5 xs gs ∧ gs.length = i ∧ ss.length + i = 7 ∧ (gs.map (·.1) ++ ss).Nodup ∧ (∀ g ∈ gs, g.1 ∈ allNames) ∧ (∀ s ∈ ss, s ∈ allNames) ∧ (∀ g ∈ gs, 1 ≤ g.2) ∧ (∀ g ∈ gs, g.2 ≤ 50) ∧ PotAt H5 p l ∧ Kp p H H5)
        ⟨allNames, [], [], none, rfl, hN4, hF4, PairsAt.nil, rfl, allNames_len, allNames_nodup, by simp, fun s hs => hs, by simp, by simp, pot4, kp0⟩ ?_ ?_
      · rintro i σ H5 hi ⟨ss, xs, gs, kv, rfl, hN5, hF5, hP5, hl, hsl, hnd, hnm, hss, hpos, htop, pot5, kp5⟩
        walk_at "my_rd"
        refine ⟨p, l, _, rfl, pot5, by rw [List.length_map]; omega, by rw [List.length_map]; omega, fun r2 H6 a0 a1 pot6 kp6 => ?_⟩
        rw [List.length_map] at a1
        have hN6 : H6 N = some (.lst (ss.map V.str)) := Kp.get kp6 hN5 nNp
        have hF6 : H6 F = some (.lst xs) := Kp.get kp6 hF5 nFp
        have hP6 := hP5.kp pot5 kp6
        have hr2 : r2.toNat < ss.length := by omega
        have hx : ss[r2.toNat]? = some ss[r2.toNat] := List.getElem?_eq_getElem hr2
        walk_at "my_rd"
        refine q_popAt (n := r2.toNat) hN6 (by omega) (by rw [List.length_map]; exact hr2) (by omega) (v := .str ss[r2.toNat]) (by rw [List.getElem?_map, hx]; rfl) ?_
        rw [map_erase]
        generalize hH7 : upd H6 N (HO.lst ((ss.eraseIdx r2.toNat).map V.str)) = H7
        have hN7 : H7 N = some (.lst ((ss.eraseIdx r2.toNat).map V.str)) := by rw [← hH7]; exact upd_same
        have hF7 : H7 F = some (.lst xs) := by rw [← hH7]; exact upd_other nNF.symm hF6
        have hP7 : PairsAt H7 xs gs := by rw [← hH7]; exact hP6.updL hN6
        have pot7 : PotAt H7 p l := by rw [← hH7]; exact pot6.upd nNp nNl
        have kp7 : Kp p H H7 := by rw [← hH7]; exact Kp.new (Kp.trans kp5 kp6) nN
        walk_at "my_rd"
        refine q_lstK (by decide) fun M nM => ?_
        walk_at "my_rd"
        refine ⟨p, l, 3, rfl, pot7.new nM, by omega, by omega, fun r3 H8 b0 b1 pot8 kp8 => ?_⟩
        have hM8 : H8 M = some (.lst [.int 1, .int 4, .int 50]) := Kp.get kp8 upd_same (pot7.nep nM)
        obtain ⟨lim, hlim, l0, l1⟩ : ∃ lim : Int, atI [V.int 1, V.int 4, V.int 50] r3 = some (.int lim) ∧ 1 ≤ lim ∧ lim ≤ 50 := by
          have : r3 = 0 ∨ r3 = 1 ∨ r3 = 2 := by omega
          rcases this with rfl | rfl | rfl
          · exact ⟨1, rfl, by omega, by omega⟩
          · exact ⟨4, rfl, by omega, by omega⟩
          · exact ⟨50, rfl, by omega, by omega⟩
        walk_at "my_rd"
        refine q_ixLt hM8 hlim ?_
        walk_at "my_rd"
        refine ⟨p, l, lim, rfl, pot8, by omega, by omega, fun r4 H9 c0 c1 pot9 kp9 => ?_⟩
        have kp79 : Kp p (upd H7 M (.lst [.int 1, .int 4, .int 50])) H9 := Kp.trans kp8 kp9
        have hN9 : H9 N = some (.lst ((ss.eraseIdx r2.toNat).map V.str)) := Kp.get kp79 (upd_new nM hN7) nNp
        have hF9 : H9 F = some (.lst xs) := Kp.get kp79 (upd_new nM hF7) nFp
        have hP9 : PairsAt H9 xs gs := (hP7.new nM).kp (pot7.new nM) kp79
        have hM0 : H M = none := Kp.fresh kp7 pot.at.choose_spec nM (pot7.nep nM)
        have kp09 : Kp p H H9 := Kp.trans (Kp.new kp7 hM0) kp79
        walk_at "my_rd"
        refine q_tupK (by show 2 ≤ sizeLine; decide) fun U nU => ?_
        have hU0 : H U = none := Kp.fresh kp09 pot.at.choose_spec nU (pot9.nep nU)
        have nFU : F ≠ U := ne_of_none hF9 nU
        have nNU : N ≠ U := ne_of_none hN9 nU
        walk_at "my_rd"
        refine q_append (upd_new nU hF9) (by rw [hP9.len]; exact small1000 (by omega)) ?_
        walk_at "my_rd"
        refine ⟨ss.eraseIdx r2.toNat, xs ++ [.ref U], gs ++ [(ss[r2.toNat], 1 + r4)], _, rfl, upd_other nNF (upd_new nU hN9), upd_same, ?_, by rw [List.length_append, hl]; rfl, ?_, ?_, ?_, ?_, ?_, ?_, (pot9.new nU).upd nFp nFl, Kp.new (Kp.new kp09 hU0) hF0⟩
        · exact ((hP9.new nU).snoc (g := (ss[r2.toNat], 1 + r4)) upd_same).updL (upd_new nU hF9)
        · rw [List.length_eraseIdx_of_lt hr2]; omega
        · rw [List.map_append]
          exact names_pop hx hnd
        · intro g hg
          rcases List.mem_append.mp hg with h | h
          · exact hnm g h
          · rw [List.mem_singleton.mp h]; exact hss _ (List.mem_of_getElem? hx)
        · intro z hz
          exact hss z (List.mem_of_mem_eraseIdx hz)
        · intro g hg
          rcases List.mem_append.mp hg with h | h
          · exact hpos g h
          · rw [List.mem_singleton.mp h]; show 1 ≤ 1 + r4; omega
        · intro g hg
          rcases List.mem_append.mp hg with h | h
          · exact htop g h
          · rw [List.mem_singleton.mp h]; show 1 + r4 ≤ 50; omega
      · rintro σ H5 ⟨ss, xs, gs, kv, rfl, hN5, hF5, hP5, hl, hsl, hnd, hnm, hss, hpos, htop, pot5, kp5⟩
        walk_at "my_rd"
        refine q_tupL (sqL hF5) fun a na => ?_
        walk_at "my_rd"
        refine k a xs gs _ (Kp.fresh kp5 pot.at.choose_spec na (pot5.nep na)) upd_same (hP5.new na) ⟨?_, by omega, (List.nodup_append.mp hnd).1, hnm, hpos, htop⟩ (by omega) (pot5.new na) (Kp.new kp5 (Kp.fresh kp5 pot.at.choose_spec na (pot5.nep na)))
        rintro rfl
        simp at hl
        omega
end

/-! values as data -/
def intD : PyData → Bool
  | .int _ => true
  | _ => false
def boolD : PyData → Bool
  | .bool _ => true
  | _ => false
def strD : PyData → Bool
  | .str _ => true
  | _ => false
def tupD : PyData → Bool
  | .tuple _ => true
  | _ => false
def leastD (n : Int) : PyData → Bool
  | .int i => decide (n ≤ i)
  | _ => false
def okCode (c : Nat) : Bool := decide (32 ≤ c) && decide (c ≤ 126) && !decide (c = 37)
def textS (s : Str) : Bool := s.cps.toList.all okCode
def textD : PyData → Bool
  | .str s => textS s
  | _ => false
def shortD (m : Int) : PyData → Bool
  | .str s => textS s && (decide (1 ≤ (s.length : Int)) && decide ((s.length : Int) ≤ m))
  | _ => false
def accD : PyData → Bool := shortD 20
/-- the type of a value -/
def tyD : PyData → String
  | .none => "NoneType"
  | .bool _ => "bool"
  | .int _ => "int"
  | .str _ => "str"
  | .list _ => "list"
  | .tuple _ => "tuple"
  | .dict _ => "dict"
theorem dp_ty {K : PySem.W.Frag} {H : Hp} {v : V} {d : PyData} (h : Dp K H v d) : TyX K H v (.type (tyD d)) := by
  cases h with
  | non => exact .base .non
  | bl b => exact .base (.bl b)
  | int i => exact .base (.int i)
  | str x => exact .base (.str x)
  | lst h1 h2 =>
    rcases h1 with (h | ⟨o, h⟩) | ⟨o, its, n, h, h3, _⟩
    · exact .base (.lst h)
    · exact .base (.frz h)
    · exact .kList h h3
  | tup h1 h2 =>
    rcases h1 with (h | ⟨o, h⟩) | ⟨o, its, n, h, h3, _⟩
    · exact .base (.tup h)
    · exact .fTuple h
    · exact .kTuple h h3
def tyB (n : String) (d : PyData) : Bool := decide (tyD d = n) || (decide (n = "int") && decide (tyD d = "bool"))
theorem q_isiD {K : PySem.W.Frag} {H : Hp} {Q : VK} {v : V} {d : PyData} {n : String} {b : Bool} (h : Dp K H v d) (hk : kitB (tyD d) n = some b) (k : Q (.bl b) H) : rIsi K [v, .ty n] H Q := q_isi (dp_ty h) (kit_ty hk) k
theorem kit_int (d : PyData) : kitB (tyD d) "int" = some (intD d || boolD d) := by
  cases d <;> first | exact (by decide +kernel : kitB "NoneType" "int" = some false) | exact (by decide +kernel : kitB "bool" "int" = some true) | exact (by decide +kernel : kitB "int" "int" = some true) | exact (by decide +kernel : kitB "str" "int" = some false) | exact (by decide +kernel : kitB "list" "int" = some false) | exact (by decide +kernel : kitB "tuple" "int" = some false) | exact (by decide +kernel : kitB "dict" "int" = some false)
theorem kit_bool (d : PyData) : kitB (tyD d) "bool" = some (boolD d) := by
  cases d <;> first | exact (by decide +kernel : kitB "NoneType" "bool" = some false) | exact (by decide +kernel : kitB "bool" "bool" = some true) | exact (by decide +kernel : kitB "int" "bool" = some false) | exact (by decide +kernel : kitB "str" "bool" = some false) | exact (by decide +kernel : kitB "list" "bool" = some false) | exact (by decide +kernel : kitB "tuple" "bool" = some false) | exact (by decide +kernel : kitB "dict" "bool" = some false)
theorem kit_str (d : PyData) : kitB (tyD d) "str" = some (strD d) := by
  cases d <;> first | exact (by decide +kernel : kitB "NoneType" "str" = some false) | exact (by decide +kernel : kitB "bool" "str" = some false) | exact (by decide +kernel : kitB "int" "str" = some false) | exact (by decide +kernel : kitB "str" "str" = some true) | exact (by decide +kernel : kitB "list" "str" = some false) | exact (by decide +kernel : kitB "tuple" "str" = some false) | exact (by decide +kernel : kitB "dict" "str" = some false)
theorem kit_tuple (d : PyData) : kitB (tyD d) "tuple" = some (tupD d) := by
  cases d <;> first | exact (by decide +kernel : kitB "NoneType" "tuple" = some false) | exact (by decide +kernel : kitB "bool" "tuple" = some false) | exact (by decide +kernel : kitB "int" "tuple" = some false) | exact (by decide +kernel : kitB "str" "tuple" = some false) | exact (by decide +kernel : kitB "list" "tuple" = some false) | exact (by decide +kernel : kitB "tuple" "tuple" = some true) | exact (by decide +kernel : kitB "dict" "tuple" = some false)
mutual
theorem dp_mono {K : PySem.W.Frag} {H H' : Hp} (sm : Same H H') : ∀ {v : V} {d : PyData}, Dp K H v d → Dp K H' v d
  | _, _, .non => .non
  | _, _, .bl b => .bl b
  | _, _, .int i => .int i
  | _, _, .str x => .str x
  | _, _, .lst h1 h2 => .lst (Same.seq sm h1) (dpall_mono sm h2)
  | _, _, .tup h1 h2 => .tup (Same.sqT sm h1) (dpall_mono sm h2)
theorem dpall_mono {K : PySem.W.Frag} {H H' : Hp} (sm : Same H H') : ∀ {vs : List V} {ds : List PyData}, DpAll K H vs ds → DpAll K H' vs ds
  | _, _, .nil => .nil
  | _, _, .cons h1 h2 => .cons (dp_mono sm h1) (dpall_mono sm h2)
end
theorem dpall_len {K : PySem.W.Frag} {H : Hp} : ∀ {vs : List V} {ds : List PyData}, DpAll K H vs ds → vs.length = ds.length
  | _, _, .nil => rfl
  | _, _, .cons _ h => by rw [List.length_cons, List.length_cons, dpall_len h]
theorem dpall_get {K : PySem.W.Frag} {H : Hp} : ∀ {vs : List V} {ds : List PyData} {i : Nat} {v : V}, DpAll K H vs ds → vs[i]? = some v → ∃ d, ds[i]? = some d ∧ Dp K H v d
  | _, _, _, _, .nil, e => by simp at e
  | _, _, 0, _, .cons h _, e => by
    simp at e
    subst e
    exact ⟨_, rfl, h⟩
  | _, _, i + 1, v, .cons _ h, e => by
    obtain ⟨d, h1, h2⟩ := dpall_get h (i := i) (v := v) (by simpa using e)
    exact ⟨d, by simpa using h1, h2⟩
def Fine : PyData → Prop
  | .str s => s.length ≤ 100000
  | _ => True
/-- a def that tells something of one value -/
def sp_tell (K : PySem.W.Frag) (f : PyData → Bool) : Sp := fun vs H Q _ => ∃ (v : V) (d : PyData), vs = [v] ∧ Dp K H v d ∧ Fine d ∧ ∀ H', Same H H' → Q (.bl (f d)) H'
def sp_tell2 (K : PySem.W.Frag) (f : Int → PyData → Bool) : Sp := fun vs H Q _ => ∃ (v : V) (d : PyData) (n : Int), vs = [v, .int n] ∧ Dp K H v d ∧ Fine d ∧ ∀ H', Same H H' → Q (.bl (f n d)) H'
section
variable {P : Program} {w : World} {K : PySem.W.Frag} {mg : Str → Option Value} {base : Heap}
theorem ok_is_integer (T : Txt K mg) : FnOk P w K mg base CX0 1 T.f_is_integer T.d_is_integer ["value"] (sp_tell K intD) := by
  refine T.F_is_integer.ok sc_is_integer (fun vs H Q E h => ?_) (fun cdv A outer s H vs Q E hr h => ?_)
  · obtain ⟨v, d, rfl, _⟩ := h; rfl
  · obtain ⟨v, d, rfl, hd, _, k⟩ := h
    refine ⟨_, (pss_one (ps_ret (pe_and (pe_callB call_isi (by rfl) T.z_isinstance boot_isinstance (pa_cons (pv 0) (pa_cons (pe_bltn (v := .ty "int") (by rfl) T.z_int boot_int rfl) pa_nil))) (pe_one (pe_not (pe_callB call_isi (by rfl) T.z_isinstance boot_isinstance (pa_cons (pv 0) (pa_cons (pe_bltn (v := .ty "bool") (by rfl) T.z_bool boot_bool rfl) pa_nil)))))))), ?_⟩
    (dsimp only [cxOf, Cx.nox, Cx.wish, L2.start, List.map, List.length, List.replicate, List.cons_append, List.nil_append, List.append_eq, Nat.reduceSub, Nat.reduceAdd])
    walk_at "my_rd"
    refine q_isiD hd (kit_int d) ?_
    refine q_andV2 (fun h => ?_) (fun h => ?_)
    · walk_at "my_rd"
      refine q_isiD hd (kit_bool d) ?_
      walk_at "my_rd"
      have e : (!boolD d) = intD d := by cases d <;> first | rfl | cases h
      rw [e]
      exact k H (Same.refl _)
    · have e : false = intD d := by cases d <;> first | rfl | cases h
      rw [e]
      exact k H (Same.refl _)
theorem ok_is_at_least (T : Txt K mg) : FnOk P w K mg base CX0 2 T.f_is_at_least T.d_is_at_least ["value", "least"] (sp_tell2 K leastD) := by
  refine T.F_is_at_least.ok sc_is_at_least (fun vs H Q E h => ?_) (fun cdv A outer s H vs Q E hr h => ?_)
  · obtain ⟨v, d, n, rfl, _⟩ := h; rfl
  · obtain ⟨v, d, n, rfl, hd, hf, k⟩ := h
    refine ⟨_, (pss_one (ps_ret (pe_and (pe_call (ok_is_integer T) (hr.mono (by decide)) (by rfl) T.g_is_integer T.F_is_integer.kp T.b_is_integer .nil pass0 (pa_cons (pv 0) pa_nil)) (pe_one (pe_cmpR op_ge (pv 0) (pv 1) (nomark _)))))), ?_⟩
    (dsimp only [cxOf, Cx.nox, Cx.wish, L2.start, List.map, List.length, List.replicate, List.cons_append, List.nil_append, List.append_eq, Nat.reduceSub, Nat.reduceAdd])
    walk_at "my_rd"
    refine ⟨v, d, rfl, hd, hf, fun H1 sm => ?_⟩
    refine q_andV2 (fun h => ?_) (fun h => ?_)
    · cases hd with
      | int i =>
        walk_at "my_rd"
        exact k H1 sm
      | _ => cases h
    · have e : false = leastD n d := by cases d <;> first | rfl | cases h
      rw [e]
      exact k H1 sm
theorem ok_is_text (T : Txt K mg) : FnOk P w K mg base CX0 1 T.f_is_text T.d_is_text ["value"] (sp_tell K textD) := by
  refine T.F_is_text.ok sc_is_text (fun vs H Q E h => ?_) (fun cdv A outer s H vs Q E hr h => ?_)
  · obtain ⟨v, d, rfl, _⟩ := h; rfl
  · obtain ⟨v, d, rfl, hd, _, k⟩ := h
    refine ⟨_, (pss_cons (ps_if (pt_not (pt_val (pe_callB call_isi (by rfl) T.z_isinstance boot_isinstance (pa_cons (pv 0) (pa_cons (pe_bltn (v := .ty "str") (by rfl) T.z_str boot_str rfl) pa_nil))))) (pss_one (ps_ret pe_bl)) pss_nil)
      (pss_cons (ps_for PassesOwn.never rfl (pi_str (pv 0)) (pg_name (i := 1) sc_is_text.nd rfl (Or.inl rfl))
        (pss_cons (ps_set (i := 2) sc_is_text.nd rfl (Or.inl rfl) (pe_callB cq_ord (by rfl) T.z_ord boot_ord (pa_cons (pv 1) pa_nil)))
      (pss_one (ps_if (PW.pt (pw_or (pt_cmpR op_lt (pv 2) (pe_glob (v := .int 32) (by rfl) T.c_FIRST_CODE ⟨_, rfl⟩) (nomark _)) (pw_or (pt_cmpR op_gt (pv 2) (pe_glob (v := .int 126) (by rfl) T.c_LAST_CODE ⟨_, rfl⟩) (nomark _)) (pw_or1 (pt_cmpR op_eq (pv 2) (pe_glob (v := .int 37) (by rfl) T.c_BARRED_CODE ⟨_, rfl⟩) (nomark _)))))) (pss_one (ps_ret pe_bl)) pss_nil))))
      (pss_one (ps_ret pe_bl)))), ?_⟩
    (dsimp only [cxOf, Cx.nox, Cx.wish, L2.start, List.map, List.length, List.replicate, List.cons_append, List.nil_append, List.append_eq, Nat.reduceSub, Nat.reduceAdd])
    walk_at "my_rd"
    refine q_isiD hd (kit_str d) ?_
    walk_at "my_rd"
    cases hd with
    | str x =>
      show ifK _ _ _ _ false H
      walk_at "my_rd"
      refine q_forS (fun i σ H2 => ∃ c1 c2, σ = [some (.str x), c1, c2] ∧ H2 = H ∧ (x.cps.toList.take i).all okCode = true) ⟨_, _, rfl, rfl, rfl⟩ ?_ ?_
      · rintro i c σ H2 hc ⟨c1, c2, rfl, rfl, hall⟩
        have hc' : x.cps.toList[i]? = some c := by rw [Array.getElem?_toList]; exact hc
        have bad : okCode c = false → textD (.str x) = false := fun h => by
          show x.cps.toList.all okCode = false
          rw [List.all_eq_false]
          exact ⟨c, List.mem_of_getElem? hc', by rw [h]; exact Bool.false_ne_true⟩
        walk_at "my_rd"
        refine q_or2 (fun h => ?_) (fun h1 => ?_)
        · walk_at "my_rd"
          have h := dec_t h
          rw [← bad (by unfold okCode; rw [decide_eq_false (show ¬ 32 ≤ c by omega)]; rfl)]
          exact k _ (Same.refl _)
        · walk_at "my_rd"
          refine q_or2 (fun h => ?_) (fun h2 => ?_)
          · walk_at "my_rd"
            have h := dec_t h
            rw [← bad (by unfold okCode; rw [decide_eq_false (show ¬ c ≤ 126 by omega), Bool.and_false]; rfl)]
            exact k _ (Same.refl _)
          · walk_at "my_rd"
            refine q_if2 (fun h => ?_) (fun h3 => ?_)
            · walk_at "my_rd"
              have h := dec_t h
              rw [← bad (by unfold okCode; rw [decide_eq_true (show c = 37 by omega), Bool.and_comm]; rfl)]
              exact k _ (Same.refl _)
            · walk_at "my_rd"
              have h1 := dec_f h1
              have h2 := dec_f h2
              have h3 := dec_f h3
              refine ⟨_, _, rfl, rfl, ?_⟩
              rw [take_snoc hc', List.all_append, hall, Bool.true_and, List.all_cons, List.all_nil, Bool.and_true]
              unfold okCode
              rw [decide_eq_true (show 32 ≤ c by omega), decide_eq_true (show c ≤ 126 by omega), decide_eq_false (show ¬ c = 37 by omega)]
              rfl
      · rintro σ H2 ⟨c1, c2, rfl, rfl, hall⟩
        walk_at "my_rd"
        have e : textD (.str x) = true := by
          have e2 : x.cps.toList.take x.cps.size = x.cps.toList := List.take_of_length_le (by simp)
          rw [e2] at hall
          exact hall
        rw [← e]
        exact k _ (Same.refl _)
    | _ =>
      show ifK _ _ _ _ true H
      walk_at "my_rd"
      exact k H (Same.refl _)
theorem ok_is_short_text (T : Txt K mg) : FnOk P w K mg base CX0 2 T.f_is_short_text T.d_is_short_text ["value", "most"] (sp_tell2 K shortD) := by
  refine T.F_is_short_text.ok sc_is_short_text (fun vs H Q E h => ?_) (fun cdv A outer s H vs Q E hr h => ?_)
  · obtain ⟨v, d, n, rfl, _⟩ := h; rfl
  · obtain ⟨v, d, n, rfl, hd, hf, k⟩ := h
    refine ⟨_, (pss_one (ps_ret (pe_and (pe_call (ok_is_text T) (hr.mono (by decide)) (by rfl) T.g_is_text T.F_is_text.kp T.b_is_text .nil pass0 (pa_cons (pv 0) pa_nil)) (pe_one (pe_chain op_le op_le pe_int (pe_callB cq_lenS (by rfl) T.z_len boot_len (pa_cons (pv 0) pa_nil)) (pv 1)))))), ?_⟩
    (dsimp only [cxOf, Cx.nox, Cx.wish, L2.start, List.map, List.length, List.replicate, List.cons_append, List.nil_append, List.append_eq, Nat.reduceSub, Nat.reduceAdd])
    walk_at "my_rd"
    refine ⟨v, d, rfl, hd, hf, fun H1 sm => ?_⟩
    refine q_andV2 (fun h => ?_) (fun h => ?_)
    · cases hd with
      | str x =>
        have hx : x.length ≤ 100000 := hf
        walk_at "my_rd"
        refine q_lenS (Nat.le_trans hx (by decide)) ?_
        walk_at "my_rd"
        have e : shortD n (.str x) = (decide (1 ≤ (x.length : Int)) && decide ((x.length : Int) ≤ n)) := by
          show (textS x && _) = _
          rw [show textS x = true from h, Bool.true_and]
        refine q_ch2 (fun h1 => ?_) (fun h1 => ?_)
        · walk_at "my_rd"
          rw [h1, Bool.true_and] at e
          rw [← e]
          exact k H1 sm
        · rw [h1, Bool.false_and] at e
          rw [← e]
          exact k H1 sm
      | _ => cases h
    · have e : false = shortD n d := by
        cases d <;> first | rfl | (show false = (_ && _); rw [show textS _ = false from h]; rfl)
      rw [e]
      exact k H1 sm
theorem ok_is_account (T : Txt K mg) : FnOk P w K mg base CX0 3 T.f_is_account T.d_is_account ["value"] (sp_tell K accD) := by
  refine T.F_is_account.ok sc_is_account (fun vs H Q E h => ?_) (fun cdv A outer s H vs Q E hr h => ?_)
  · obtain ⟨v, d, rfl, _⟩ := h; rfl
  · obtain ⟨v, d, rfl, hd, hf, k⟩ := h
    refine ⟨_, (pss_one (ps_ret (pe_call (ok_is_short_text T) (hr.mono (by decide)) (by rfl) T.g_is_short_text T.F_is_short_text.kp T.b_is_short_text .nil pass0 (pa_cons (pv 0) (pa_cons (pe_glob (v := .int 20) (by rfl) T.c_ACCOUNT_LENGTH ⟨_, rfl⟩) pa_nil))))), ?_⟩
    (dsimp only [cxOf, Cx.nox, Cx.wish, L2.start, List.map, List.length, List.replicate, List.cons_append, List.nil_append, List.append_eq, Nat.reduceSub, Nat.reduceAdd])
    walk_at "my_rd"
    exact ⟨v, d, 20, rfl, hd, hf, fun H1 sm => k H1 sm⟩
end

/-! pairs and sets, told of any value -/
def pairD : PyData → Bool
  | .tuple [a, b] => accD a && leastD 1 b
  | _ => false
def nameS : PyData → Str
  | .tuple (.str s :: _) => s
  | _ => ""
def setD : PyData → Bool
  | .tuple ds => !ds.isEmpty && (ds.all pairD && decide ((ds.map nameS).Nodup))
  | _ => false
def FineP (d : PyData) : Prop := ∀ a b, d = .tuple [a, b] → Fine a ∧ Fine b
def FineS (d : PyData) : Prop := ∀ ds, d = .tuple ds → ds.length ≤ 1000 ∧ ∀ x ∈ ds, FineP x
theorem pairD_shape {d : PyData} (h : pairD d = true) : ∃ s n, d = .tuple [.str s, .int n] ∧ accD (.str s) = true ∧ 1 ≤ n := by
  unfold pairD at h
  split at h
  · rename_i a b
    rw [Bool.and_eq_true] at h
    obtain ⟨h1, h2⟩ := h
    cases a <;> try cases h1
    cases b <;> try cases h2
    exact ⟨_, _, rfl, h1, of_decide_eq_true h2⟩
  · cases h
def sp_pair (K : PySem.W.Frag) : Sp := fun vs H Q _ => ∃ (v : V) (d : PyData), vs = [v] ∧ Dp K H v d ∧ FineP d ∧ ∀ H', Same H H' → Q (.bl (pairD d)) H'
def sp_set (K : PySem.W.Frag) : Sp := fun vs H Q _ => ∃ (v : V) (d : PyData), vs = [v] ∧ Dp K H v d ∧ FineS d ∧ ∀ H', Same H H' → Q (.bl (setD d)) H'
theorem mem_names {l : List Key} {s : Str} (ks : List Str) (h : l = ks.map Sum.inr) : (Sum.inr s : Key) ∈ l ↔ s ∈ ks := by
  subst h
  constructor
  · intro m
    obtain ⟨z, hz, e⟩ := List.mem_map.mp m
    cases e
    exact hz
  · exact fun m => List.mem_map.mpr ⟨s, m, rfl⟩
section
variable {P : Program} {w : World} {K : PySem.W.Frag} {mg : Str → Option Value} {base : Heap}
theorem ok_is_pair (T : Txt K mg) : FnOk P w K mg base CX0 4 T.f_is_pair T.d_is_pair ["part"] (sp_pair K) := by
  refine T.F_is_pair.ok sc_is_pair (fun vs H Q E h => ?_) (fun cdv A outer s H vs Q E hr h => ?_)
  · obtain ⟨v, d, rfl, _⟩ := h; rfl
  · obtain ⟨v, d, rfl, hd, hf, k⟩ := h
    refine ⟨_, (pss_one (ps_ret (pe_and (pe_callB call_isi (by rfl) T.z_isinstance boot_isinstance (pa_cons (pv 0) (pa_cons (pe_bltn (v := .ty "tuple") (by rfl) T.z_tuple boot_tuple rfl) pa_nil))) (pe_and (pe_cmpR op_eq (pe_callB cq_len (by rfl) T.z_len boot_len (pa_cons (pv 0) pa_nil)) pe_int (nomark _)) (pe_and (pe_call (ok_is_account T) (hr.mono (by decide)) (by rfl) T.g_is_account T.F_is_account.kp T.b_is_account .nil pass0 (pa_cons (pe_ix ix_tup (pv 0) pe_int (fun _ _ => rfl)) pa_nil)) (pe_one (pe_call (ok_is_at_least T) (hr.mono (by decide)) (by rfl) T.g_is_at_least T.F_is_at_least.kp T.b_is_at_least .nil pass0 (pa_cons (pe_ix ix_tup (pv 0) pe_int (fun _ _ => rfl)) (pa_cons pe_int pa_nil))))))))), ?_⟩
    (dsimp only [cxOf, Cx.nox, Cx.wish, L2.start, List.map, List.length, List.replicate, List.cons_append, List.nil_append, List.append_eq, Nat.reduceSub, Nat.reduceAdd])
    walk_at "my_rd"
    refine q_isiD hd (kit_tuple d) ?_
    cases hd with
    | @tup a xs ds h1 h2 =>
      show andVK _ _ _ (.bl true) H
      walk_at "my_rd"
      refine q_lenT h1 ?_
      walk_at "my_rd"
      have hl := dpall_len h2
      by_cases h : xs.length = 2
      · rw [decide_eq_true (show (xs.length : Int) = 2 by omega)]
        obtain ⟨v0, v1, rfl⟩ : ∃ v0 v1, xs = [v0, v1] := by
          match xs, h with
          | [v0, v1], _ => exact ⟨v0, v1, rfl⟩
        cases h2 with
        | cons d0 h2 =>
          cases h2 with
          | cons d1 h2 =>
            cases h2
            obtain ⟨f0, f1⟩ := hf _ _ rfl
            walk_at "my_rd"
            refine q_ixT h1 rfl ?_
            walk_at "my_rd"
            refine ⟨_, _, rfl, d0, f0, fun H1 sm => ?_⟩
            refine q_andV2 (fun h => ?_) (fun h => ?_)
            · walk_at "my_rd"
              refine q_ixT (Same.sqT sm h1) rfl ?_
              walk_at "my_rd"
              refine ⟨_, _, _, rfl, dp_mono sm d1, f1, fun H2 sm2 => ?_⟩
              rename_i y0 y1
              have e : pairD (.tuple [y0, y1]) = leastD 1 y1 := by
                show (accD y0 && leastD 1 y1) = _
                rw [h, Bool.true_and]
              rw [← e]
              exact k H2 (Same.trans sm sm2)
            · rename_i y0 y1
              have e : false = pairD (.tuple [y0, y1]) := by
                show false = (accD y0 && leastD 1 y1)
                rw [h, Bool.false_and]
              rw [e]
              exact k H1 sm
      · rw [decide_eq_false (show ¬ (xs.length : Int) = 2 by omega)]
        have e : false = pairD (.tuple ds) := by
          unfold pairD
          split
          · rename_i heq
            injection heq with heq
            subst heq
            exact absurd hl h
          · rfl
        walk_at "my_rd"
        rw [e]
        exact k H (Same.refl _)
    | _ =>
      show andVK _ _ _ (.bl false) H
      walk_at "my_rd"
      exact k H (Same.refl _)
theorem ok_is_set (T : Txt K mg) : FnOk P w K mg base CX0 5 T.f_is_set T.d_is_set ["value"] (sp_set K) := by
  refine T.F_is_set.ok sc_is_set (fun vs H Q E h => ?_) (fun cdv A outer s H vs Q E hr h => ?_)
  · obtain ⟨v, d, rfl, _⟩ := h; rfl
  · obtain ⟨v, d, rfl, hd, hf, k⟩ := h
    have hu := hu_of hr
    refine ⟨_, (pss_cons (ps_if (PW.pt (pw_or (pt_not (pt_val (pe_callB call_isi (by rfl) T.z_isinstance boot_isinstance (pa_cons (pv 0) (pa_cons (pe_bltn (v := .ty "tuple") (by rfl) T.z_tuple boot_tuple rfl) pa_nil))))) (pw_or1 (pt_not (pt_truth (pv 0) (by intro _; rfl)))))) (pss_one (ps_ret pe_bl)) pss_nil)
      (pss_cons (ps_set (i := 1) sc_is_set.nd rfl (Or.inl rfl) pe_dnewK)
      (pss_cons (ps_for PassesOwn.never rfl (pi_tup (pv 0)) (pg_name (i := 2) sc_is_set.nd rfl (Or.inl rfl))
        (pss_cons (ps_if (PW.pt (pw_or (pt_not (pt_val (pe_call (ok_is_pair T) (hr.mono (by decide)) (by rfl) T.g_is_pair T.F_is_pair.kp T.b_is_pair .nil pass0 (pa_cons (pv 2) pa_nil)))) (pw_or1 (pt_cmp (pc_din hu (pe_ix ix_tup (pv 2) pe_int (fun _ _ => rfl)) (pv 1)))))) (pss_one (ps_ret pe_bl)) pss_nil)
      (pss_one (ps_dput hu (pv 1) (pe_ix ix_tup (pv 2) pe_int (fun _ _ => rfl)) pe_bl rfl))))
      (pss_one (ps_ret pe_bl))))), ?_⟩
    (dsimp only [cxOf, Cx.nox, Cx.wish, L2.start, List.map, List.length, List.replicate, List.cons_append, List.nil_append, List.append_eq, Nat.reduceSub, Nat.reduceAdd])
    walk_at "my_rd"
    refine q_isiD hd (kit_tuple d) ?_
    cases hd with
    | @tup a xs ds h1 h2 =>
      show bK _ (.bl true) H
      walk_at "my_rd"
      have hl := dpall_len h2
      obtain ⟨hfl, hfp⟩ := hf ds rfl

      refine ⟨!xs.isEmpty, .inr (.inl ⟨xs, h1, rfl⟩), ?_⟩
      cases hx : xs.isEmpty with
      | true =>
        show ifK _ _ _ _ true H
        walk_at "my_rd"
        have e : xs = [] := List.isEmpty_iff.mp hx
        subst e
        have e2 : ds = [] := List.length_eq_zero_iff.mp hl.symm
        subst e2
        exact k H (Same.refl _)
      | false =>
        show ifK _ _ _ _ false H
        walk_at "my_rd"
        refine q_dNew fun F nF => ?_
        walk_at "my_rd"
        have e0 : ds.isEmpty = false := by
          cases ds with
          | nil => rw [List.length_eq_zero_iff.mp hl] at hx; cases hx
          | cons _ _ => rfl
        refine q_forT (Same.sqT (Same.new (Same.refl _) nF) h1) (fun i σ H2 => ∃ (kvs : List (Key × V)) (pv : Option V), σ = [some (.ref a), some (.ref F), pv] ∧ Same H H2 ∧ H2 F = some (.dK kvs) ∧ kvs.map (·.1) = ((ds.take i).map nameS).map Sum.inr ∧ (ds.take i).all pairD = true ∧ ((ds.take i).map nameS).Nodup)
          ⟨[], _, rfl, Same.new (Same.refl _) nF, upd_same, rfl, rfl, List.nodup_nil⟩ (fun i σ H2 _ ⟨_, _, _, sm, _⟩ => Same.sqT sm h1) ?_ ?_
        · rintro i x σ H2 hx ⟨kvs, pv, rfl, sm, hF, hk, hall, hnd⟩
          obtain ⟨dx, hdx, hdp⟩ := dpall_get h2 hx
          have hnf : ∀ b, (ds.take (i + 1)).all pairD = b → (b = false → ds.all pairD = false) := fun b hb hb2 => by
            rw [hb2] at hb
            rw [List.all_eq_false] at hb ⊢
            obtain ⟨z, hz, hp⟩ := hb
            exact ⟨z, List.mem_of_mem_take hz, hp⟩
          walk_at "my_rd"
          refine ⟨x, dx, rfl, dp_mono sm hdp, hfp dx (List.mem_of_getElem? hdx), fun H3 sm3 => ?_⟩
          cases hpd : pairD dx with
          | false =>
            walk_at "my_rd"

            walk_at "my_rd"
            have e : false = setD (.tuple ds) := by
              show false = (!ds.isEmpty && (ds.all pairD && _))
              rw [hnf false (by rw [take_snoc hdx, List.all_append, List.all_cons, hpd]; simp) rfl]
              simp
            rw [e]
            exact k H3 (Same.trans sm sm3)
          | true =>
            walk_at "my_rd"
            obtain ⟨nme, wt, rfl, _, _⟩ := pairD_shape hpd
            have hdp3 := dp_mono (Same.trans sm sm3) hdp
            have hF3 := sm3 _ _ hF
            cases hdp3 with
            | @tup b ys es t1 t2 =>
              cases t2 with
              | @cons v0 _ _ _ u0 t2 =>
                cases t2 with
                | cons u1 t3 =>
                cases t3
                cases u0 with
                | str _ =>
                  refine q_ixT t1 rfl ?_
                  walk_at "my_rd"
                  have key : (valV kvs (Sum.inr nme)).isSome = decide (nme ∈ (ds.take i).map nameS) := by
                    cases hv : valV kvs (Sum.inr nme) with
                    | none =>
                      have q := valV_not hv
                      rw [mem_names _ hk] at q
                      exact (decide_eq_false q).symm
                    | some _ =>
                      have q := valV_in hv
                      rw [mem_names _ hk] at q
                      exact (decide_eq_true q).symm
                  rw [key]
                  refine q_if2 (fun h => ?_) (fun h => ?_)
                  · have h := dec_t h
                    walk_at "my_rd"
                    have e : false = setD (.tuple ds) := by
                      show false = (!ds.isEmpty && (ds.all pairD && decide ((ds.map nameS).Nodup)))
                      rw [decide_eq_false, Bool.and_false, Bool.and_false]
                      intro hn
                      have h3 : ((ds.take (i + 1)).map nameS).Nodup := (List.Sublist.map _ (List.take_sublist _ _)).nodup hn
                      rw [take_snoc hdx, List.map_append] at h3
                      exact (List.nodup_append.mp h3).2.2 nme h nme (by simp [nameS]) rfl
                    rw [e]
                    exact k H3 (Same.trans sm sm3)
                  · have h := dec_f h
                    walk_at "my_rd"
                    refine q_ixT t1 rfl ?_
                    have hv : valV kvs (Sum.inr nme) = none := by
                      cases hv : valV kvs (Sum.inr nme) with
                      | none => rfl
                      | some _ =>
                        rw [hv] at key
                        exact absurd (dec_t key.symm) h
                    refine q_dPutS hF3 ?_ ?_
                    · have : kvs.length = (ds.take i).length := by
                        have := congrArg List.length hk
                        simpa using this
                      rw [List.length_take] at this
                      exact small1000 (by omega)
                    · walk_at "my_rd"
                      have e2 : ds.take (i + 1) = ds.take i ++ [PyData.tuple [.str nme, .int wt]] := take_snoc hdx
                      refine ⟨_, _, rfl, Same.new (Same.trans sm sm3) nF, upd_same, ?_, ?_, ?_⟩
                      · rw [putK_new _ hv, List.map_append, hk, e2, List.map_append, List.map_append]
                        rfl
                      · rw [e2, List.all_append, hall, List.all_cons, hpd]
                        rfl
                      · rw [e2, List.map_append]
                        exact nd_snoc hnd h
        · rintro σ H2 ⟨kvs, pv, rfl, sm, hF, hk, hall, hnd⟩
          walk_at "my_rd"
          have et : ds.take xs.length = ds := List.take_of_length_le (by rw [hl]; exact Nat.le_refl _)
          rw [et] at hall hnd
          have e : true = setD (.tuple ds) := by
            show true = (!ds.isEmpty && (ds.all pairD && decide ((ds.map nameS).Nodup)))
            rw [e0, hall, decide_eq_true hnd]
            rfl
          rw [e]
          exact k H2 sm
    | _ =>
      show bK _ (.bl false) H
      walk_at "my_rd"
      exact k H (Same.refl _)
end

/-! sides -/
def flatD : PyData → Bool
  | .none => true
  | .bool _ => true
  | .int _ => true
  | .str _ => true
  | _ => false
def isS (s : Str) : PyData → Bool
  | .str z => decide (z = s)
  | _ => false
def sideD (d : PyData) : Bool := isS "west" d || isS "east" d
def sp_side (K : PySem.W.Frag) : Sp := fun vs H Q _ => ∃ (v : V) (d : PyData), vs = [v] ∧ Dp K H v d ∧ flatD d = true ∧ ∀ H', Same H H' → Q (.bl (sideD d)) H'
theorem flat_v {K : PySem.W.Frag} {H : Hp} {v : V} {d : PyData} (h : Dp K H v d) (f : flatD d = true) : flatV v = true := by
  cases h <;> first | rfl | cases f
theorem isS_v {K : PySem.W.Frag} {H : Hp} {v : V} {d : PyData} {s : Str} (h : Dp K H v d) (f : flatD d = true) : eqV (.str s) v = isS s d := by
  cases h with
  | str x =>
    show (s == x) = decide (x = s)
    by_cases e : x = s
    · subst e; simp
    · rw [decide_eq_false e]; exact beq_eq_false_iff_ne.mpr (fun q => e q.symm)
  | _ => first | rfl | cases f
section
variable {P : Program} {w : World} {K : PySem.W.Frag} {mg : Str → Option Value} {base : Heap}
theorem ok_is_side (T : Txt K mg) : FnOk P w K mg base CX0 1 T.f_is_side T.d_is_side ["value"] (sp_side K) := by
  refine T.F_is_side.ok sc_is_side (fun vs H Q E h => ?_) (fun cdv A outer s H vs Q E hr h => ?_)
  · obtain ⟨v, d, rfl, _⟩ := h; rfl
  · obtain ⟨v, d, rfl, hd, hf, k⟩ := h
    refine ⟨_, (pss_one (ps_ret (pe_cmpR op_in_seq (pv 0) (pe_glob (v := .ref T.a_SIDES) (by rfl) T.c_SIDES rfl) (by rfl)))), ?_⟩
    (dsimp only [cxOf, Cx.nox, Cx.wish, L2.start, List.map, List.length, List.replicate, List.cons_append, List.nil_append, List.append_eq, Nat.reduceSub, Nat.reduceAdd])
    walk_at "my_rd"
    refine q_inT T.k_SIDES.sq (flat_v hd hf) rfl ?_
    walk_at "my_rd"
    have e : inV v [.str "west", .str "east"] = sideD d := by
      show (eqV (.str "west") v || (eqV (.str "east") v || false)) = _
      rw [isS_v hd hf, isS_v hd hf, Bool.or_false]
      rfl
    rw [e]
    exact k H (Same.refl _)
end

/-! data made of tuples alone -/
mutual
inductive TupDp (K : PySem.W.Frag) (H : Hp) : V → PyData → Prop
  | non : TupDp K H .non .none
  | bl (b : Bool) : TupDp K H (.bl b) (.bool b)
  | int (i : Int) : TupDp K H (.int i) (.int i)
  | str (x : Str) : TupDp K H (.str x) (.str x)
  | tup {a : Addr} {xs : List V} {ds : List PyData} : H a = some (.tup xs) → TupAll K H xs ds → TupDp K H (.ref a) (.tuple ds)
inductive TupAll (K : PySem.W.Frag) (H : Hp) : List V → List PyData → Prop
  | nil : TupAll K H [] []
  | cons {v : V} {vs : List V} {d : PyData} {ds : List PyData} : TupDp K H v d → TupAll K H vs ds → TupAll K H (v :: vs) (d :: ds)
end
mutual
theorem TupDp.dp {K : PySem.W.Frag} {H : Hp} : ∀ {v : V} {d : PyData}, TupDp K H v d → Dp K H v d
  | _, _, .non => .non
  | _, _, .bl b => .bl b
  | _, _, .int i => .int i
  | _, _, .str x => .str x
  | _, _, .tup h1 h2 => .tup (sqT h1) (TupAll.dp h2)
theorem TupAll.dp {K : PySem.W.Frag} {H : Hp} : ∀ {vs : List V} {ds : List PyData}, TupAll K H vs ds → DpAll K H vs ds
  | _, _, .nil => .nil
  | _, _, .cons h1 h2 => .cons (TupDp.dp h1) (TupAll.dp h2)
end
mutual
theorem TupDp.mono {K : PySem.W.Frag} {H H' : Hp} (e : ∀ b ys, H b = some (.tup ys) → H' b = some (.tup ys)) : ∀ {v : V} {d : PyData}, TupDp K H v d → TupDp K H' v d
  | _, _, .non => .non
  | _, _, .bl b => .bl b
  | _, _, .int i => .int i
  | _, _, .str x => .str x
  | _, _, .tup h1 h2 => .tup (e _ _ h1) (TupAll.mono e h2)
theorem TupAll.mono {K : PySem.W.Frag} {H H' : Hp} (e : ∀ b ys, H b = some (.tup ys) → H' b = some (.tup ys)) : ∀ {vs : List V} {ds : List PyData}, TupAll K H vs ds → TupAll K H' vs ds
  | _, _, .nil => .nil
  | _, _, .cons h1 h2 => .cons (TupDp.mono e h1) (TupAll.mono e h2)
end
theorem Kp.tup {p l b : Addr} {ys : List V} {H H' : Hp} (k : Kp p H H') (pot : PotAt H p l) (h : H b = some (.tup ys)) : H' b = some (.tup ys) := by
  obtain ⟨ns, i, c, s, h1, _⟩ := pot
  exact k _ _ h (ne_of h h1 (by intro z; cases z))
theorem TupDp.kp {K : PySem.W.Frag} {H H' : Hp} {p l : Addr} {v : V} {d : PyData} (h : TupDp K H v d) (k : Kp p H H') (pot : PotAt H p l) : TupDp K H' v d := h.mono fun b ys q => k.tup pot q
theorem TupDp.same {K : PySem.W.Frag} {H H' : Hp} {v : V} {d : PyData} (h : TupDp K H v d) (k : Same H H') : TupDp K H' v d := h.mono fun b ys q => k _ _ q

local macro_rules | `(tactic| walk_at "my_rd") => `(tactic| (repeat first
  | with_reducible refine q_tCons ?_
  | ((with_reducible apply q_var); (focus (exact rfl)))
  | with_reducible refine q_c ?_
  | ((with_reducible apply q_nxE); (focus (with_reducible exact rfl)))
  | with_reducible refine q_bK ?_
  | with_reducible refine q_call ?_
  | with_reducible refine q_callK ?_
  | with_reducible refine q_tNil ?_
  | with_reducible refine q_cb ?_
  | with_reducible refine q_seq ?_
  | with_reducible refine q_asg ?_
  | with_reducible refine q_gName ?_
  | with_reducible refine q_op ?_
  | with_reducible refine q_test ?_
  | with_reducible refine q_tB ?_
  | with_reducible refine q_ifS ?_
  | with_reducible refine q_ret ?_
  | ((with_reducible apply q_rtE); (focus (with_reducible exact rfl)))
  | with_reducible refine q_next ?_
  | with_reducible refine q_ifF ?_
  | with_reducible refine q_ifT ?_
  | with_reducible refine q_drop ?_
  | with_reducible refine q_and ?_
  | with_reducible refine q_or ?_
  | with_reducible refine q_andT ?_
  | with_reducible refine q_andF ?_
  | with_reducible refine q_orF ?_
  | with_reducible refine q_orT ?_
  | with_reducible refine q_andV ?_
  | with_reducible refine q_andVT ?_
  | with_reducible refine q_andVF ?_
  | with_reducible refine q_orV ?_
  | with_reducible refine q_gCons ?_
  | with_reducible refine q_gNil ?_
  | with_reducible refine q_tup ?_
  | with_reducible refine q_lst ?_
  | with_reducible refine q_not ?_
  | with_reducible refine q_notKT ?_
  | with_reducible refine q_notKF ?_
  | with_reducible refine q_I0 ?_
  | with_reducible refine q_eqI ?_
  | with_reducible refine q_neI ?_
  | ((with_reducible refine q_I ?_ ?_); first | decide | omega | exact ⟨by omega, by omega⟩ | exact ⟨by decide, by decide⟩ | exact .inl ⟨by omega, by omega⟩ | exact .inr ⟨by omega, by omega⟩ | exact .inr ⟨by decide, by decide⟩)
  | with_reducible refine q_eqS ?_
  | with_reducible refine q_neS ?_
  | with_reducible refine q_brk ?_
  | with_reducible refine q_ct ?_
  | ((with_reducible apply q_bkE); (focus (with_reducible exact rfl)))
  | ((with_reducible apply q_cnE); (focus (with_reducible exact rfl)))
  | with_reducible refine q_retN ?_
  | with_reducible refine q_gSub ?_
  | with_reducible refine q_for ?_
  | with_reducible refine q_iList ?_
  | with_reducible refine q_iTup ?_
  | with_reducible refine q_iRng1 ?_
  | with_reducible refine q_notK ?_
  | with_reducible refine q_orVT ?_
  | with_reducible refine q_orVF ?_
  | with_reducible refine q_notV ?_
  | with_reducible refine q_notVK ?_
  | with_reducible refine q_ifE ?_
  | with_reducible refine q_ifET ?_
  | with_reducible refine q_ifEF ?_
  | with_reducible refine q_yes ?_
  | with_reducible refine q_un ?_
  | with_reducible refine q_rU ?_
  | with_reducible refine q_abs ?_
  | with_reducible refine q_int1 ?_
  | with_reducible refine q_bm ?_
  | with_reducible refine q_bm0 ?_
  | with_reducible refine q_lc ?_
  | with_reducible refine q_keepT ?_
  | with_reducible refine q_keepF ?_
  | ((with_reducible apply q_aug); (focus (exact rfl)))
  | with_reducible refine q_ipI ?_
  | with_reducible refine q_chain ?_
  | with_reducible refine q_pairC ?_
  | with_reducible refine q_pairsK ?_
  | with_reducible refine q_pairN ?_
  | with_reducible refine q_fld ?_
  | with_reducible refine q_sFld ?_
  | with_reducible refine q_meth ?_
  | with_reducible refine q_makeK ?_
  | with_reducible refine q_isBl ?_
  | with_reducible refine q_notBl ?_
  | with_reducible refine q_sl ?_
  | with_reducible refine q_noPart ?_
  | with_reducible refine q_part ?_
  | with_reducible refine q_partK ?_
  | ((with_reducible apply q_mulStr); (focus (decide +kernel)))
  | with_reducible refine q_chT ?_
  | with_reducible refine q_chF ?_
  | with_reducible refine q_ord ?_
  | with_reducible refine q_iStr0 ?_
  | with_reducible refine q_iStr ?_
  | with_reducible refine q_tDIn ?_
  | with_reducible refine q_tDNotIn ?_
  | with_reducible refine q_tDGet ?_
  | with_reducible refine q_tDGet2 ?_
  | with_reducible refine q_tDGet1 ?_
  | with_reducible refine q_tDSetd ?_
  | ((with_reducible apply q_dG2a); (focus ((repeat first | (with_reducible exact upd_same) | (with_reducible assumption) | (with_reducible apply upd_new (by assumption)) | (with_reducible apply upd_other (by first | assumption | exact Ne.symm (by assumption))) | (with_reducible refine' Kp.get (by assumption) ?_ (by first | assumption | exact Ne.symm (by assumption))) | (with_reducible apply Same.get (by assumption))); done)))
  | ((with_reducible apply q_dSda); (focus ((repeat first | (with_reducible exact upd_same) | (with_reducible assumption) | (with_reducible apply upd_new (by assumption)) | (with_reducible apply upd_other (by first | assumption | exact Ne.symm (by assumption))) | (with_reducible refine' Kp.get (by assumption) ?_ (by first | assumption | exact Ne.symm (by assumption))) | (with_reducible apply Same.get (by assumption))); done)))
  | with_reducible refine q_sDPut ?_
  | ((with_reducible apply q_dInS); (focus ((repeat first | (with_reducible exact upd_same) | (with_reducible assumption) | (with_reducible apply upd_new (by assumption)) | (with_reducible apply upd_other (by first | assumption | exact Ne.symm (by assumption))) | (with_reducible refine' Kp.get (by assumption) ?_ (by first | assumption | exact Ne.symm (by assumption))) | (with_reducible apply Same.get (by assumption))); done)))
  | ((with_reducible apply q_dNInS); (focus ((repeat first | (with_reducible exact upd_same) | (with_reducible assumption) | (with_reducible apply upd_new (by assumption)) | (with_reducible apply upd_other (by first | assumption | exact Ne.symm (by assumption))) | (with_reducible refine' Kp.get (by assumption) ?_ (by first | assumption | exact Ne.symm (by assumption))) | (with_reducible apply Same.get (by assumption))); done)))
  | ((with_reducible apply q_dInI); (focus ((repeat first | (with_reducible exact upd_same) | (with_reducible assumption) | (with_reducible apply upd_new (by assumption)) | (with_reducible apply upd_other (by first | assumption | exact Ne.symm (by assumption))) | (with_reducible refine' Kp.get (by assumption) ?_ (by first | assumption | exact Ne.symm (by assumption))) | (with_reducible apply Same.get (by assumption))); done)))
  | ((with_reducible apply q_dNInI); (focus ((repeat first | (with_reducible exact upd_same) | (with_reducible assumption) | (with_reducible apply upd_new (by assumption)) | (with_reducible apply upd_other (by first | assumption | exact Ne.symm (by assumption))) | (with_reducible refine' Kp.get (by assumption) ?_ (by first | assumption | exact Ne.symm (by assumption))) | (with_reducible apply Same.get (by assumption))); done)))
  | ((with_reducible apply q_bmL); (focus ((repeat first | (with_reducible exact upd_same) | (with_reducible assumption) | (with_reducible apply upd_new (by assumption)) | (with_reducible apply upd_other (by first | assumption | exact Ne.symm (by assumption))) | (with_reducible refine' Kp.get (by assumption) ?_ (by first | assumption | exact Ne.symm (by assumption))) | (with_reducible apply Same.get (by assumption))); done)))
  | ((with_reducible apply q_bmL0); (focus ((repeat first | (with_reducible exact upd_same) | (with_reducible assumption) | (with_reducible apply upd_new (by assumption)) | (with_reducible apply upd_other (by first | assumption | exact Ne.symm (by assumption))) | (with_reducible refine' Kp.get (by assumption) ?_ (by first | assumption | exact Ne.symm (by assumption))) | (with_reducible apply Same.get (by assumption))); done)))
  | ((with_reducible apply q_ixLt); (focus ((repeat first | (with_reducible exact upd_same) | (with_reducible assumption) | (with_reducible apply upd_new (by assumption)) | (with_reducible apply upd_other (by first | assumption | exact Ne.symm (by assumption))) | (with_reducible refine' Kp.get (by assumption) ?_ (by first | assumption | exact Ne.symm (by assumption))) | (with_reducible apply Same.get (by assumption))); done)); (focus (exact rfl)))
  | ((with_reducible apply q_ixTt); (focus ((repeat first | (with_reducible exact upd_same) | (with_reducible assumption) | (with_reducible apply upd_new (by assumption)) | (with_reducible apply upd_other (by first | assumption | exact Ne.symm (by assumption))) | (with_reducible refine' Kp.get (by assumption) ?_ (by first | assumption | exact Ne.symm (by assumption))) | (with_reducible apply Same.get (by assumption))); done)); (focus (exact rfl)))
  | ((with_reducible apply q_lenLt); (focus ((repeat first | (with_reducible exact upd_same) | (with_reducible assumption) | (with_reducible apply upd_new (by assumption)) | (with_reducible apply upd_other (by first | assumption | exact Ne.symm (by assumption))) | (with_reducible refine' Kp.get (by assumption) ?_ (by first | assumption | exact Ne.symm (by assumption))) | (with_reducible apply Same.get (by assumption))); done)))
  | ((with_reducible apply q_lenTt); (focus ((repeat first | (with_reducible exact upd_same) | (with_reducible assumption) | (with_reducible apply upd_new (by assumption)) | (with_reducible apply upd_other (by first | assumption | exact Ne.symm (by assumption))) | (with_reducible refine' Kp.get (by assumption) ?_ (by first | assumption | exact Ne.symm (by assumption))) | (with_reducible apply Same.get (by assumption))); done)))
  | ((with_reducible apply q_append); (focus ((repeat first | (with_reducible exact upd_same) | (with_reducible assumption) | (with_reducible apply upd_new (by assumption)) | (with_reducible apply upd_other (by first | assumption | exact Ne.symm (by assumption))) | (with_reducible refine' Kp.get (by assumption) ?_ (by first | assumption | exact Ne.symm (by assumption))) | (with_reducible apply Same.get (by assumption))); done)); (focus ((first | (exact Nat.lt_of_ble_eq_true rfl) | (simp only [List.length_append, List.length_cons, List.length_nil, List.length_map]; exact small1000 (by omega))))))
  | ((with_reducible apply q_setL); (focus ((repeat first | (with_reducible exact upd_same) | (with_reducible assumption) | (with_reducible apply upd_new (by assumption)) | (with_reducible apply upd_other (by first | assumption | exact Ne.symm (by assumption))) | (with_reducible refine' Kp.get (by assumption) ?_ (by first | assumption | exact Ne.symm (by assumption))) | (with_reducible apply Same.get (by assumption))); done)); (focus (exact rfl)))
  | with_reducible refine q_ifNT ?_
  | with_reducible refine q_ifNF ?_
  | with_reducible refine q_andNT ?_
  | with_reducible refine q_andNF ?_
  | with_reducible refine q_orNT ?_
  | with_reducible refine q_orNF ?_
  | with_reducible refine q_bKNT ?_
  | with_reducible refine q_bKNF ?_
  | with_reducible refine q_tNGet ?_
  | with_reducible refine q_tNIn ?_
  | with_reducible refine q_sNPut ?_
  | with_reducible refine q_sFldAug ?_
  | with_reducible refine q_sDAug ?_
  | with_reducible refine q_sDDel ?_
  | with_reducible refine q_forX ?_
  | with_reducible refine q_tMake ?_
  | ((with_reducible apply q_dG1a); (focus ((repeat first | (with_reducible exact upd_same) | (with_reducible assumption) | (with_reducible apply upd_new (by assumption)) | (with_reducible apply upd_other (by first | assumption | exact Ne.symm (by assumption))) | (with_reducible refine' Kp.get (by assumption) ?_ (by first | assumption | exact Ne.symm (by assumption))) | (with_reducible apply Same.get (by assumption))); done)))))
/-! configurations -/
structure TokR where
  name : Str
  home : Str
  scale : Int
  limit : Int
  large : Int
def TokR.v (t : TokR) : List V := [.str t.name, .str t.home, .int t.scale, .int t.limit, .int t.large]
structure TokR.Ok (t : TokR) : Prop where
  n : shortD 12 (.str t.name) = true
  nl : t.name.length ≤ 12
  h : sideD (.str t.home) = true
  sc : 1 ≤ t.scale
  li : 0 ≤ t.limit
  la : 1 ≤ t.large
structure BalR where
  acc : Str
  tok : Str
  amt : Int
def BalR.v (b : BalR) : List V := [.str b.acc, .str b.tok, .int b.amt]
structure BalR.Ok (b : BalR) (ts : List TokR) : Prop where
  a : accD (.str b.acc) = true
  al : b.acc.length ≤ 20
  t : shortD 12 (.str b.tok) = true
  tl : b.tok.length ≤ 12
  tm : b.tok ∈ ts.map TokR.name
  am : 0 ≤ b.amt
/-- rows that stand as tuples -/
structure RowsAt {α : Type} (f : α → List V) (H : Hp) (xs : List V) (rs : List α) : Prop where
  len : xs.length = rs.length
  at_ : ∀ (i : Nat) (r : α), rs[i]? = some r → ∃ a, xs[i]? = some (.ref a) ∧ H a = some (.tup (f r))
theorem RowsAt.mono {α : Type} {f : α → List V} {H H' : Hp} {xs : List V} {rs : List α} (h : RowsAt f H xs rs) (e : ∀ b ys, H b = some (.tup ys) → H' b = some (.tup ys)) : RowsAt f H' xs rs :=
  ⟨h.len, fun i r hr => by obtain ⟨a, h1, h2⟩ := h.at_ i r hr; exact ⟨a, h1, e _ _ h2⟩⟩
theorem RowsAt.same {α : Type} {f : α → List V} {H H' : Hp} {xs : List V} {rs : List α} (h : RowsAt f H xs rs) (e : Same H H') : RowsAt f H' xs rs := h.mono fun b ys q => e b _ q
theorem RowsAt.item {α : Type} {f : α → List V} {H : Hp} {xs : List V} {rs : List α} (h : RowsAt f H xs rs) {i : Nat} {x : V} (hx : xs[i]? = some x) : ∃ r a, rs[i]? = some r ∧ x = .ref a ∧ H a = some (.tup (f r)) := by
  have hi : i < rs.length := by rw [← h.len]; exact (List.getElem?_eq_some_iff.mp hx).1
  obtain ⟨a, h1, h2⟩ := h.at_ i rs[i] (List.getElem?_eq_getElem hi)
  exact ⟨rs[i], a, List.getElem?_eq_getElem hi, Option.some.inj (hx.symm.trans h1), h2⟩
theorem RowsAt.nil {α : Type} {f : α → List V} {H : Hp} : RowsAt f H [] [] := ⟨rfl, fun i r h => by simp at h⟩
theorem RowsAt.snoc {α : Type} {f : α → List V} {H : Hp} {xs : List V} {rs : List α} {a : Addr} {r : α} (h : RowsAt f H xs rs) (ha : H a = some (.tup (f r))) : RowsAt f H (xs ++ [.ref a]) (rs ++ [r]) := by
  refine ⟨by rw [List.length_append, List.length_append, h.len]; rfl, fun i g' hg => ?_⟩
  by_cases hi : i < rs.length
  · rw [List.getElem?_append_left hi] at hg
    rw [List.getElem?_append_left (by rw [h.len]; exact hi)]
    exact h.at_ i g' hg
  · have hi' : i = rs.length := by
      have := (List.getElem?_eq_some_iff.mp hg).1
      rw [List.length_append] at this
      simp at this
      omega
    subst hi'
    rw [List.getElem?_append_right (Nat.le_refl _)] at hg
    simp at hg
    subst hg
    refine ⟨a, ?_, ha⟩
    rw [List.getElem?_append_right (by rw [h.len]; exact Nat.le_refl _), h.len]
    simp
/-- the table of the tokens: name and row -/
structure TabAt (H : Hp) (kvs : List (Key × V)) (ts : List TokR) : Prop where
  keys : kvs.map (·.1) = (ts.map TokR.name).map Sum.inr
  at_ : ∀ t ∈ ts, ∃ r, valV kvs (Sum.inr t.name) = some (.ref r) ∧ H r = some (.tup t.v)
theorem TabAt.mono {H H' : Hp} {kvs : List (Key × V)} {ts : List TokR} (h : TabAt H kvs ts) (e : ∀ b ys, H b = some (.tup ys) → H' b = some (.tup ys)) : TabAt H' kvs ts :=
  ⟨h.keys, fun t ht => by obtain ⟨r, h1, h2⟩ := h.at_ t ht; exact ⟨r, h1, e _ _ h2⟩⟩
theorem TabAt.has {H : Hp} {kvs : List (Key × V)} {ts : List TokR} (h : TabAt H kvs ts) (s : Str) : (valV kvs (Sum.inr s)).isSome = decide (s ∈ ts.map TokR.name) := by
  cases hv : valV kvs (Sum.inr s) with
  | none =>
    have q := valV_not hv
    rw [mem_names _ h.keys] at q
    exact (decide_eq_false q).symm
  | some _ =>
    have q := valV_in hv
    rw [mem_names _ h.keys] at q
    exact (decide_eq_true q).symm
theorem TabAt.len {H : Hp} {kvs : List (Key × V)} {ts : List TokR} (h : TabAt H kvs ts) : kvs.length = ts.length := by
  have := congrArg List.length h.keys
  simpa using this
/-- what a configuration is made of -/
structure Parts where
  toks : List TokR
  bals : List BalR
  depth : Int
  window : Int
  delay : Int
  bundle : Int
structure Parts.Ok (c : Parts) : Prop where
  t : ∀ t ∈ c.toks, t.Ok
  tn : (c.toks.map TokR.name).Nodup
  tl : c.toks.length ≤ 1000
  b : ∀ b ∈ c.bals, b.Ok c.toks
  bl : c.bals.length ≤ 1000
  d : 1 ≤ c.depth
  w : 1 ≤ c.window
  y : 0 ≤ c.delay
  u : 1 ≤ c.bundle
  u8 : c.bundle ≤ 8
def cfgNames : List Str := ["_tokens", "_balances", "_guards", "_depth", "_window", "_delay", "_bundle"]
/-- a Config at x: its table td, its list of balances bl, its guards g -/
structure CfgAt (C : Addr) (c : Parts) (g : Addr) (H : Hp) (x : Addr) : Prop where
  ex : ∃ dx fs td bl kvs bv, H x = some (.ins C dx fs) ∧ fs.lookup ("_tokens" : Str) = some (.ref td) ∧ fs.lookup ("_balances" : Str) = some (.ref bl) ∧ fs.lookup ("_guards" : Str) = some (.ref g) ∧ fs.lookup ("_depth" : Str) = some (.int c.depth) ∧ fs.lookup ("_window" : Str) = some (.int c.window) ∧
    fs.lookup ("_delay" : Str) = some (.int c.delay) ∧ fs.lookup ("_bundle" : Str) = some (.int c.bundle) ∧ (∀ m : Str, m ∉ cfgNames → fs.lookup m = none) ∧ H td = some (.dK kvs) ∧ TabAt H kvs c.toks ∧ H bl = some (.lst bv) ∧ RowsAt BalR.v H bv c.bals
theorem CfgAt.same {C : Addr} {c : Parts} {g : Addr} {H H' : Hp} {x : Addr} (h : CfgAt C c g H x) (e : Same H H') : CfgAt C c g H' x := by
  obtain ⟨dx, fs, td, bl, kvs, bv, h1, h2, h3, h4, h5, h6, h7, h8, h9, h10, h11, h12, h13⟩ := h.ex
  exact ⟨dx, fs, td, bl, kvs, bv, e _ _ h1, h2, h3, h4, h5, h6, h7, h8, h9, e _ _ h10, h11.mono fun b ys q => e _ _ q, e _ _ h12, h13.same e⟩
def sp_check_list (K : PySem.W.Frag) : Sp := fun vs H Q _ => ∃ (n : Str) (a : Addr) (xs : List V), vs = [.str n, .ref a] ∧ SqL K H a xs ∧ ∀ H', Same H H' → Q .non H'
def sp_check_least : Sp := fun vs H Q _ => ∃ (n : Str) (i l : Int), vs = [.str n, .int i, .int l] ∧ l ≤ i ∧ ∀ H', Same H H' → Q .non H'
def sp_check_tok : Sp := fun vs H Q _ => ∃ (a : Addr) (t : TokR), vs = [.ref a] ∧ H a = some (.tup t.v) ∧ t.Ok ∧ ∀ H', Same H H' → Q .non H'
def sp_check_bal : Sp := fun vs H Q _ => ∃ (a d : Addr) (b : BalR) (kvs : List (Key × V)) (ts : List TokR), vs = [.ref a, .ref d] ∧ H a = some (.tup b.v) ∧ H d = some (.dK kvs) ∧ TabAt H kvs ts ∧ b.Ok ts ∧ ∀ H', Same H H' → Q .non H'
def sp_cfg (K : PySem.W.Frag) (C : Addr) : Sp := fun vs H Q _ => ∃ (x dx tl bl g : Addr) (tv bv : List V) (gd : PyData) (c : Parts), vs = [.ref x, .ref tl, .ref bl, .ref g, .int c.depth, .int c.window, .int c.delay, .int c.bundle] ∧
  H x = some (.ins C dx []) ∧ H tl = some (.lst tv) ∧ H bl = some (.lst bv) ∧ RowsAt TokR.v H tv c.toks ∧ RowsAt BalR.v H bv c.bals ∧ TupDp K H (.ref g) gd ∧ setD gd = true ∧ FineS gd ∧ c.Ok ∧
  ∀ H', CfgAt C c g H' x → Kp x H H' → Q .non H'
section
variable {P : Program} {w : World} {K : PySem.W.Frag} {mg : Str → Option Value} {base : Heap}
theorem ty_list {H : Hp} {a : Addr} {xs : List V} (h : SqL K H a xs) : TyX K H (.ref a) (.type "list") := by
  rcases h with (h | ⟨o, h⟩) | ⟨o, its, n, h, h3, _⟩
  · exact .base (.lst h)
  · exact .base (.frz h)
  · exact .kList h h3
theorem ok_check_list (T : Txt K mg) : FnOk P w K mg base CX0 1 T.f_check_list T.d_check_list ["name", "value"] (sp_check_list K) := by
  refine T.F_check_list.ok sc_check_list (fun vs H Q E h => ?_) (fun cdv A outer s H vs Q E hr h => ?_)
  · obtain ⟨n, a, xs, rfl, _⟩ := h; rfl
  · obtain ⟨n, a, xs, rfl, ha, k⟩ := h
    refine ⟨_, (pss_one (ps_if (pt_not (pt_val (pe_callB call_isi (by rfl) T.z_isinstance boot_isinstance (pa_cons (pv 1) (pa_cons (pe_bltn (v := .ty "list") (by rfl) T.z_list boot_list rfl) pa_nil))))) (pss_one ps_never) pss_nil)), ?_⟩
    (dsimp only [cxOf, Cx.nox, Cx.wish, L2.start, List.map, List.length, List.replicate, List.cons_append, List.nil_append, List.append_eq, Nat.reduceSub, Nat.reduceAdd])
    walk_at "my_rd"
    refine q_isi (c := true) (ty_list ha) (kit_ty (by decide +kernel)) ?_
    walk_at "my_rd"
    exact k H (Same.refl _)
theorem ok_check_least (T : Txt K mg) : FnOk P w K mg base CX0 3 T.f_check_least T.d_check_least ["name", "value", "least"] sp_check_least := by
  refine T.F_check_least.ok sc_check_least (fun vs H Q E h => ?_) (fun cdv A outer s H vs Q E hr h => ?_)
  · obtain ⟨n, i, l, rfl, _⟩ := h; rfl
  · obtain ⟨n, i, l, rfl, hl, k⟩ := h
    refine ⟨_, (pss_one (ps_if (pt_not (pt_val (pe_call (ok_is_at_least T) (hr.mono (by decide)) (by rfl) T.g_is_at_least T.F_is_at_least.kp T.b_is_at_least .nil pass0 (pa_cons (pv 1) (pa_cons (pv 2) pa_nil))))) (pss_one ps_never) pss_nil)), ?_⟩
    (dsimp only [cxOf, Cx.nox, Cx.wish, L2.start, List.map, List.length, List.replicate, List.cons_append, List.nil_append, List.append_eq, Nat.reduceSub, Nat.reduceAdd])
    walk_at "my_rd"
    refine ⟨.int i, .int i, l, rfl, .int i, trivial, fun H1 sm => ?_⟩
    rw [show leastD l (.int i) = true from decide_eq_true hl]
    walk_at "my_rd"
    exact k H1 sm
theorem ok_check_token_row (T : Txt K mg) : FnOk P w K mg base CX0 4 T.f_check_token_row T.d_check_token_row ["row"] sp_check_tok := by
  refine T.F_check_token_row.ok sc_check_token_row (fun vs H Q E h => ?_) (fun cdv A outer s H vs Q E hr h => ?_)
  · obtain ⟨a, t, rfl, _⟩ := h; rfl
  · obtain ⟨a, t, rfl, ha, ht, k⟩ := h
    have hd : Dp K H (.ref a) (.tuple [.str t.name, .str t.home, .int t.scale, .int t.limit, .int t.large]) := .tup (sqT ha) (.cons (.str _) (.cons (.str _) (.cons (.int _) (.cons (.int _) (.cons (.int _) .nil)))))
    refine ⟨_, (pss_cons (ps_if (PW.pt (pw_or (pt_not (pt_val (pe_callB call_isi (by rfl) T.z_isinstance boot_isinstance (pa_cons (pv 0) (pa_cons (pe_bltn (v := .ty "tuple") (by rfl) T.z_tuple boot_tuple rfl) pa_nil))))) (pw_or1 (pt_cmpR op_ne (pe_callB cq_len (by rfl) T.z_len boot_len (pa_cons (pv 0) pa_nil)) pe_int (nomark _))))) (pss_one ps_never) pss_nil)
      (pss_cons (ps_asg (pv 0) (pg_tup rfl (pgs_cons (pg_name (i := 1) sc_check_token_row.nd rfl (Or.inl rfl)) (pgs_cons (pg_name (i := 2) sc_check_token_row.nd rfl (Or.inl rfl)) (pgs_cons (pg_name (i := 3) sc_check_token_row.nd rfl (Or.inl rfl)) (pgs_cons (pg_name (i := 4) sc_check_token_row.nd rfl (Or.inl rfl)) (pgs_cons (pg_name (i := 5) sc_check_token_row.nd rfl (Or.inl rfl)) pgs_nil)))))))
      (pss_cons (ps_if (pt_not (pt_val (pe_call (ok_is_short_text T) (hr.mono (by decide)) (by rfl) T.g_is_short_text T.F_is_short_text.kp T.b_is_short_text .nil pass0 (pa_cons (pv 1) (pa_cons (pe_glob (v := .int 12) (by rfl) T.c_TOKEN_LENGTH ⟨_, rfl⟩) pa_nil))))) (pss_one ps_never) pss_nil)
      (pss_cons (ps_if (pt_not (pt_val (pe_call (ok_is_side T) (hr.mono (by decide)) (by rfl) T.g_is_side T.F_is_side.kp T.b_is_side .nil pass0 (pa_cons (pv 2) pa_nil)))) (pss_one ps_never) pss_nil)
      (pss_cons (ps_expr (pe_call (ok_check_least T) (hr.mono (by decide)) (by rfl) T.g_check_least T.F_check_least.kp T.b_check_least .nil pass0 (pa_cons pe_str (pa_cons (pv 3) (pa_cons pe_int pa_nil)))))
      (pss_cons (ps_expr (pe_call (ok_check_least T) (hr.mono (by decide)) (by rfl) T.g_check_least T.F_check_least.kp T.b_check_least .nil pass0 (pa_cons pe_str (pa_cons (pv 4) (pa_cons pe_int pa_nil)))))
      (pss_one (ps_expr (pe_call (ok_check_least T) (hr.mono (by decide)) (by rfl) T.g_check_least T.F_check_least.kp T.b_check_least .nil pass0 (pa_cons pe_str (pa_cons (pv 5) (pa_cons pe_int pa_nil)))))))))))), ?_⟩
    (dsimp only [cxOf, Cx.nox, Cx.wish, L2.start, List.map, List.length, List.replicate, List.cons_append, List.nil_append, List.append_eq, Nat.reduceSub, Nat.reduceAdd])
    walk_at "my_rd"
    refine q_isiD hd (kit_tuple _) ?_
    show bK _ (.bl true) H
    walk_at "my_rd"
    rw [show decide ((t.v.length : Int) = 5) = true from rfl]
    walk_at "my_rd"
    refine q_gTup (sqT ha) rfl ?_
    unfold TokR.v
    walk_at "my_rd"
    refine ⟨.str t.name, .str t.name, 12, rfl, .str _, by show t.name.length ≤ 100000; have := ht.nl; omega, fun H1 sm1 => ?_⟩
    rw [ht.n]
    walk_at "my_rd"
    refine ⟨.str t.home, .str t.home, rfl, .str _, rfl, fun H2 sm2 => ?_⟩
    rw [ht.h]
    walk_at "my_rd"
    refine ⟨_, t.scale, 1, rfl, ht.sc, fun H3 sm3 => ?_⟩
    walk_at "my_rd"
    refine ⟨_, t.limit, 0, rfl, ht.li, fun H4 sm4 => ?_⟩
    walk_at "my_rd"
    refine ⟨_, t.large, 1, rfl, ht.la, fun H5 sm5 => ?_⟩
    walk_at "my_rd"
    exact k H5 (Same.trans sm1 (Same.trans sm2 (Same.trans sm3 (Same.trans sm4 sm5))))
theorem ok_check_balance_row (T : Txt K mg) : FnOk P w K mg base CX0 4 T.f_check_balance_row T.d_check_balance_row ["row", "tokens"] sp_check_bal := by
  refine T.F_check_balance_row.ok sc_check_balance_row (fun vs H Q E h => ?_) (fun cdv A outer s H vs Q E hr h => ?_)
  · obtain ⟨a, d, b, kvs, ts, rfl, _⟩ := h; rfl
  · obtain ⟨a, d, b, kvs, ts, rfl, ha, hdd, hT, hb, k⟩ := h
    have hu := hu_of hr
    have hd : Dp K H (.ref a) (.tuple [.str b.acc, .str b.tok, .int b.amt]) := .tup (sqT ha) (.cons (.str _) (.cons (.str _) (.cons (.int _) .nil)))
    refine ⟨_, (pss_cons (ps_if (PW.pt (pw_or (pt_not (pt_val (pe_callB call_isi (by rfl) T.z_isinstance boot_isinstance (pa_cons (pv 0) (pa_cons (pe_bltn (v := .ty "tuple") (by rfl) T.z_tuple boot_tuple rfl) pa_nil))))) (pw_or1 (pt_cmpR op_ne (pe_callB cq_len (by rfl) T.z_len boot_len (pa_cons (pv 0) pa_nil)) pe_int (nomark _))))) (pss_one ps_never) pss_nil)
      (pss_cons (ps_asg (pv 0) (pg_tup rfl (pgs_cons (pg_name (i := 2) sc_check_balance_row.nd rfl (Or.inl rfl)) (pgs_cons (pg_name (i := 3) sc_check_balance_row.nd rfl (Or.inl rfl)) (pgs_cons (pg_name (i := 4) sc_check_balance_row.nd rfl (Or.inl rfl)) pgs_nil)))))
      (pss_cons (ps_if (pt_not (pt_val (pe_call (ok_is_account T) (hr.mono (by decide)) (by rfl) T.g_is_account T.F_is_account.kp T.b_is_account .nil pass0 (pa_cons (pv 2) pa_nil)))) (pss_one ps_never) pss_nil)
      (pss_cons (ps_if (PW.pt (pw_or (pt_not (pt_val (pe_call (ok_is_short_text T) (hr.mono (by decide)) (by rfl) T.g_is_short_text T.F_is_short_text.kp T.b_is_short_text .nil pass0 (pa_cons (pv 3) (pa_cons (pe_glob (v := .int 12) (by rfl) T.c_TOKEN_LENGTH ⟨_, rfl⟩) pa_nil))))) (pw_or1 (pt_cmp (pc_dnotin hu (pv 3) (pv 1)))))) (pss_one ps_never) pss_nil)
      (pss_one (ps_expr (pe_call (ok_check_least T) (hr.mono (by decide)) (by rfl) T.g_check_least T.F_check_least.kp T.b_check_least .nil pass0 (pa_cons pe_str (pa_cons (pv 4) (pa_cons pe_int pa_nil)))))))))), ?_⟩
    (dsimp only [cxOf, Cx.nox, Cx.wish, L2.start, List.map, List.length, List.replicate, List.cons_append, List.nil_append, List.append_eq, Nat.reduceSub, Nat.reduceAdd])
    walk_at "my_rd"
    refine q_isiD hd (kit_tuple _) ?_
    show bK _ (.bl true) H
    walk_at "my_rd"
    rw [show decide ((b.v.length : Int) = 3) = true from rfl]
    walk_at "my_rd"
    refine q_gTup (sqT ha) rfl ?_
    unfold BalR.v
    walk_at "my_rd"
    refine ⟨.str b.acc, .str b.acc, rfl, .str _, by show b.acc.length ≤ 100000; have := hb.al; omega, fun H1 sm1 => ?_⟩
    rw [hb.a]
    walk_at "my_rd"
    refine ⟨.str b.tok, .str b.tok, 12, rfl, .str _, by show b.tok.length ≤ 100000; have := hb.tl; omega, fun H2 sm2 => ?_⟩
    rw [hb.t]
    have sm := Same.trans sm1 sm2
    walk_at "my_rd"
    rw [hT.has, decide_eq_true hb.tm]
    walk_at "my_rd"
    refine ⟨_, b.amt, 0, rfl, hb.am, fun H3 sm3 => ?_⟩
    walk_at "my_rd"
    exact k H3 (Same.trans sm sm3)
end

local macro_rules | `(tactic| walk_at "my_rd") => `(tactic| (repeat first
  | with_reducible refine q_tCons ?_
  | ((with_reducible apply q_var); (focus (exact rfl)))
  | with_reducible refine q_c ?_
  | ((with_reducible apply q_nxE); (focus (with_reducible exact rfl)))
  | with_reducible refine q_bK ?_
  | with_reducible refine q_call ?_
  | with_reducible refine q_callK ?_
  | with_reducible refine q_tNil ?_
  | with_reducible refine q_cb ?_
  | with_reducible refine q_seq ?_
  | with_reducible refine q_asg ?_
  | with_reducible refine q_gName ?_
  | with_reducible refine q_op ?_
  | with_reducible refine q_test ?_
  | with_reducible refine q_tB ?_
  | with_reducible refine q_ifS ?_
  | with_reducible refine q_ret ?_
  | ((with_reducible apply q_rtE); (focus (with_reducible exact rfl)))
  | with_reducible refine q_next ?_
  | with_reducible refine q_ifF ?_
  | with_reducible refine q_ifT ?_
  | with_reducible refine q_drop ?_
  | with_reducible refine q_and ?_
  | with_reducible refine q_or ?_
  | with_reducible refine q_andT ?_
  | with_reducible refine q_andF ?_
  | with_reducible refine q_orF ?_
  | with_reducible refine q_orT ?_
  | with_reducible refine q_andV ?_
  | with_reducible refine q_andVT ?_
  | with_reducible refine q_andVF ?_
  | with_reducible refine q_orV ?_
  | with_reducible refine q_gCons ?_
  | with_reducible refine q_gNil ?_
  | with_reducible refine q_tup ?_
  | with_reducible refine q_lst ?_
  | with_reducible refine q_not ?_
  | with_reducible refine q_notKT ?_
  | with_reducible refine q_notKF ?_
  | with_reducible refine q_I0 ?_
  | with_reducible refine q_eqI ?_
  | with_reducible refine q_neI ?_
  | ((with_reducible refine q_I ?_ ?_); first | decide | omega | exact ⟨by omega, by omega⟩ | exact ⟨by decide, by decide⟩ | exact .inl ⟨by omega, by omega⟩ | exact .inr ⟨by omega, by omega⟩ | exact .inr ⟨by decide, by decide⟩)
  | with_reducible refine q_eqS ?_
  | with_reducible refine q_neS ?_
  | with_reducible refine q_brk ?_
  | with_reducible refine q_ct ?_
  | ((with_reducible apply q_bkE); (focus (with_reducible exact rfl)))
  | ((with_reducible apply q_cnE); (focus (with_reducible exact rfl)))
  | with_reducible refine q_retN ?_
  | with_reducible refine q_gSub ?_
  | with_reducible refine q_for ?_
  | with_reducible refine q_iList ?_
  | with_reducible refine q_iTup ?_
  | with_reducible refine q_iRng1 ?_
  | with_reducible refine q_notK ?_
  | with_reducible refine q_orVT ?_
  | with_reducible refine q_orVF ?_
  | with_reducible refine q_notV ?_
  | with_reducible refine q_notVK ?_
  | with_reducible refine q_ifE ?_
  | with_reducible refine q_ifET ?_
  | with_reducible refine q_ifEF ?_
  | with_reducible refine q_yes ?_
  | with_reducible refine q_un ?_
  | with_reducible refine q_rU ?_
  | with_reducible refine q_abs ?_
  | with_reducible refine q_int1 ?_
  | with_reducible refine q_bm ?_
  | with_reducible refine q_bm0 ?_
  | with_reducible refine q_lc ?_
  | with_reducible refine q_keepT ?_
  | with_reducible refine q_keepF ?_
  | ((with_reducible apply q_aug); (focus (exact rfl)))
  | with_reducible refine q_ipI ?_
  | with_reducible refine q_chain ?_
  | with_reducible refine q_pairC ?_
  | with_reducible refine q_pairsK ?_
  | with_reducible refine q_pairN ?_
  | with_reducible refine q_fld ?_
  | with_reducible refine q_sFld ?_
  | with_reducible refine q_meth ?_
  | with_reducible refine q_makeK ?_
  | with_reducible refine q_isBl ?_
  | with_reducible refine q_notBl ?_
  | with_reducible refine q_sl ?_
  | with_reducible refine q_noPart ?_
  | with_reducible refine q_part ?_
  | with_reducible refine q_partK ?_
  | ((with_reducible apply q_mulStr); (focus (decide +kernel)))
  | with_reducible refine q_chT ?_
  | with_reducible refine q_chF ?_
  | with_reducible refine q_ord ?_
  | with_reducible refine q_iStr0 ?_
  | with_reducible refine q_iStr ?_
  | with_reducible refine q_tDIn ?_
  | with_reducible refine q_tDNotIn ?_
  | with_reducible refine q_tDGet ?_
  | with_reducible refine q_tDGet2 ?_
  | with_reducible refine q_tDGet1 ?_
  | with_reducible refine q_tDSetd ?_
  | ((with_reducible apply q_dG2a); (focus ((repeat first | (with_reducible exact upd_same) | (with_reducible assumption) | (with_reducible apply upd_new (by assumption)) | (with_reducible apply upd_other (by first | assumption | exact Ne.symm (by assumption))) | (with_reducible refine' Kp.get (by assumption) ?_ (by first | assumption | exact Ne.symm (by assumption))) | (with_reducible apply Same.get (by assumption))); done)))
  | ((with_reducible apply q_dSda); (focus ((repeat first | (with_reducible exact upd_same) | (with_reducible assumption) | (with_reducible apply upd_new (by assumption)) | (with_reducible apply upd_other (by first | assumption | exact Ne.symm (by assumption))) | (with_reducible refine' Kp.get (by assumption) ?_ (by first | assumption | exact Ne.symm (by assumption))) | (with_reducible apply Same.get (by assumption))); done)))
  | with_reducible refine q_sDPut ?_
  | ((with_reducible apply q_dInS); (focus ((repeat first | (with_reducible exact upd_same) | (with_reducible assumption) | (with_reducible apply upd_new (by assumption)) | (with_reducible apply upd_other (by first | assumption | exact Ne.symm (by assumption))) | (with_reducible refine' Kp.get (by assumption) ?_ (by first | assumption | exact Ne.symm (by assumption))) | (with_reducible apply Same.get (by assumption))); done)))
  | ((with_reducible apply q_dNInS); (focus ((repeat first | (with_reducible exact upd_same) | (with_reducible assumption) | (with_reducible apply upd_new (by assumption)) | (with_reducible apply upd_other (by first | assumption | exact Ne.symm (by assumption))) | (with_reducible refine' Kp.get (by assumption) ?_ (by first | assumption | exact Ne.symm (by assumption))) | (with_reducible apply Same.get (by assumption))); done)))
  | ((with_reducible apply q_dInI); (focus ((repeat first | (with_reducible exact upd_same) | (with_reducible assumption) | (with_reducible apply upd_new (by assumption)) | (with_reducible apply upd_other (by first | assumption | exact Ne.symm (by assumption))) | (with_reducible refine' Kp.get (by assumption) ?_ (by first | assumption | exact Ne.symm (by assumption))) | (with_reducible apply Same.get (by assumption))); done)))
  | ((with_reducible apply q_dNInI); (focus ((repeat first | (with_reducible exact upd_same) | (with_reducible assumption) | (with_reducible apply upd_new (by assumption)) | (with_reducible apply upd_other (by first | assumption | exact Ne.symm (by assumption))) | (with_reducible refine' Kp.get (by assumption) ?_ (by first | assumption | exact Ne.symm (by assumption))) | (with_reducible apply Same.get (by assumption))); done)))
  | ((with_reducible apply q_bmL); (focus ((repeat first | (with_reducible exact upd_same) | (with_reducible assumption) | (with_reducible apply upd_new (by assumption)) | (with_reducible apply upd_other (by first | assumption | exact Ne.symm (by assumption))) | (with_reducible refine' Kp.get (by assumption) ?_ (by first | assumption | exact Ne.symm (by assumption))) | (with_reducible apply Same.get (by assumption))); done)))
  | ((with_reducible apply q_bmL0); (focus ((repeat first | (with_reducible exact upd_same) | (with_reducible assumption) | (with_reducible apply upd_new (by assumption)) | (with_reducible apply upd_other (by first | assumption | exact Ne.symm (by assumption))) | (with_reducible refine' Kp.get (by assumption) ?_ (by first | assumption | exact Ne.symm (by assumption))) | (with_reducible apply Same.get (by assumption))); done)))
  | ((with_reducible apply q_ixLt); (focus ((repeat first | (with_reducible exact upd_same) | (with_reducible assumption) | (with_reducible apply upd_new (by assumption)) | (with_reducible apply upd_other (by first | assumption | exact Ne.symm (by assumption))) | (with_reducible refine' Kp.get (by assumption) ?_ (by first | assumption | exact Ne.symm (by assumption))) | (with_reducible apply Same.get (by assumption))); done)); (focus (exact rfl)))
  | ((with_reducible apply q_ixTt); (focus ((repeat first | (with_reducible exact upd_same) | (with_reducible assumption) | (with_reducible apply upd_new (by assumption)) | (with_reducible apply upd_other (by first | assumption | exact Ne.symm (by assumption))) | (with_reducible refine' Kp.get (by assumption) ?_ (by first | assumption | exact Ne.symm (by assumption))) | (with_reducible apply Same.get (by assumption))); done)); (focus (exact rfl)))
  | ((with_reducible apply q_lenLt); (focus ((repeat first | (with_reducible exact upd_same) | (with_reducible assumption) | (with_reducible apply upd_new (by assumption)) | (with_reducible apply upd_other (by first | assumption | exact Ne.symm (by assumption))) | (with_reducible refine' Kp.get (by assumption) ?_ (by first | assumption | exact Ne.symm (by assumption))) | (with_reducible apply Same.get (by assumption))); done)))
  | ((with_reducible apply q_lenTt); (focus ((repeat first | (with_reducible exact upd_same) | (with_reducible assumption) | (with_reducible apply upd_new (by assumption)) | (with_reducible apply upd_other (by first | assumption | exact Ne.symm (by assumption))) | (with_reducible refine' Kp.get (by assumption) ?_ (by first | assumption | exact Ne.symm (by assumption))) | (with_reducible apply Same.get (by assumption))); done)))
  | ((with_reducible apply q_append); (focus ((repeat first | (with_reducible exact upd_same) | (with_reducible assumption) | (with_reducible apply upd_new (by assumption)) | (with_reducible apply upd_other (by first | assumption | exact Ne.symm (by assumption))) | (with_reducible refine' Kp.get (by assumption) ?_ (by first | assumption | exact Ne.symm (by assumption))) | (with_reducible apply Same.get (by assumption))); done)); (focus ((first | (exact Nat.lt_of_ble_eq_true rfl) | (simp only [List.length_append, List.length_cons, List.length_nil, List.length_map]; exact small1000 (by omega))))))
  | ((with_reducible apply q_setL); (focus ((repeat first | (with_reducible exact upd_same) | (with_reducible assumption) | (with_reducible apply upd_new (by assumption)) | (with_reducible apply upd_other (by first | assumption | exact Ne.symm (by assumption))) | (with_reducible refine' Kp.get (by assumption) ?_ (by first | assumption | exact Ne.symm (by assumption))) | (with_reducible apply Same.get (by assumption))); done)); (focus (exact rfl)))
  | with_reducible refine q_ifNT ?_
  | with_reducible refine q_ifNF ?_
  | with_reducible refine q_andNT ?_
  | with_reducible refine q_andNF ?_
  | with_reducible refine q_orNT ?_
  | with_reducible refine q_orNF ?_
  | with_reducible refine q_bKNT ?_
  | with_reducible refine q_bKNF ?_
  | with_reducible refine q_tNGet ?_
  | with_reducible refine q_tNIn ?_
  | with_reducible refine q_sNPut ?_
  | with_reducible refine q_sFldAug ?_
  | with_reducible refine q_sDAug ?_
  | with_reducible refine q_sDDel ?_
  | with_reducible refine q_forX ?_
  | with_reducible refine q_tMake ?_
  | ((with_reducible apply q_dG1a); (focus ((repeat first | (with_reducible exact upd_same) | (with_reducible assumption) | (with_reducible apply upd_new (by assumption)) | (with_reducible apply upd_other (by first | assumption | exact Ne.symm (by assumption))) | (with_reducible refine' Kp.get (by assumption) ?_ (by first | assumption | exact Ne.symm (by assumption))) | (with_reducible apply Same.get (by assumption))); done)))))
theorem RowsAt.kp {α : Type} {f : α → List V} {H H' : Hp} {xs : List V} {rs : List α} {x C dx : Addr} {fs : List (Str × V)} (h : RowsAt f H xs rs) (hx : H x = some (.ins C dx fs)) (k : Kp x H H') : RowsAt f H' xs rs :=
  h.mono fun b ys q => k _ _ q (ne_of q hx (by intro z; cases z))
theorem valV_put {kvs : List (Key × V)} {k k' : Key} {v : V} (h : valV kvs k = none) : valV (putK kvs k v) k' = if k' = k then some v else valV kvs k' := by
  rw [putK_new v h]
  unfold valV
  rw [List.find?_append]
  by_cases e : k' = k
  · subst e
    rw [if_pos rfl]
    have : kvs.find? (fun kv => decide (kv.1 = k')) = none := by
      cases q : kvs.find? (fun kv => decide (kv.1 = k')) with
      | none => rfl
      | some x =>
        unfold valV at h
        rw [q] at h
        cases h
    rw [this]
    simp
  · rw [if_neg e]
    cases q : kvs.find? (fun kv => decide (kv.1 = k')) with
    | some x => rfl
    | none =>
      have e2 : ¬ k = k' := fun z => e z.symm
      simp [e2]
section
variable {P : Program} {w : World} {K : PySem.W.Frag} {mg : Str → Option Value} {base : Heap}
theorem ok_Config_init (T : Txt K mg) : FnOk P w K mg base CX0 6 T.f_Config_init T.d_Config_init ["self", "tokens", "balances", "guards", "depth", "window", "delay", "bundle"] (sp_cfg K T.C_Config) := by
  refine T.F_Config_init.ok sc_Config_init (fun vs H Q E h => ?_) (fun cdv A outer s H vs Q E hr h => ?_)
  · obtain ⟨x, dx, tl, bl, g, tv, bv, gd, c, rfl, _⟩ := h; rfl
  · obtain ⟨x, dx, tl, bl, g, tv, bv, gd, c, rfl, hx, htl, hbl, hT, hB, hG, hset, hfine, hc, k⟩ := h
    have hu := hu_of hr
    refine ⟨_, (pss_cons (ps_expr (pe_call (ok_check_list T) (hr.mono (by decide)) (by rfl) T.g_check_list T.F_check_list.kp T.b_check_list .nil pass0 (pa_cons pe_str (pa_cons (pv 1) pa_nil))))
      (pss_cons (ps_expr (pe_call (ok_check_list T) (hr.mono (by decide)) (by rfl) T.g_check_list T.F_check_list.kp T.b_check_list .nil pass0 (pa_cons pe_str (pa_cons (pv 2) pa_nil))))
      (pss_cons (ps_fld (pv 0) pe_dnewK rfl)
      (pss_cons (ps_for PassesOwn.never rfl (pi_list (pv 1)) (pg_name (i := 8) sc_Config_init.nd rfl (Or.inl rfl))
        (pss_cons (ps_expr (pe_call (ok_check_token_row T) (hr.mono (by decide)) (by rfl) T.g_check_token_row T.F_check_token_row.kp T.b_check_token_row .nil pass0 (pa_cons (pv 8) pa_nil)))
      (pss_cons (ps_if (pt_cmp (pc_din hu (pe_ix ix_tup (pv 8) pe_int (fun _ _ => rfl)) (pe_fld (pv 0) rfl))) (pss_one ps_never) pss_nil)
      (pss_one (ps_dput hu (pe_fld (pv 0) rfl) (pe_ix ix_tup (pv 8) pe_int (fun _ _ => rfl)) (pv 8) rfl)))))
      (pss_cons (ps_for PassesOwn.never rfl (pi_list (pv 2)) (pg_name (i := 8) sc_Config_init.nd rfl (Or.inl rfl))
        (pss_one (ps_expr (pe_call (ok_check_balance_row T) (hr.mono (by decide)) (by rfl) T.g_check_balance_row T.F_check_balance_row.kp T.b_check_balance_row .nil pass0 (pa_cons (pv 8) (pa_cons (pe_fld (pv 0) rfl) pa_nil))))))
      (pss_cons (ps_if (pt_not (pt_val (pe_call (ok_is_set T) (hr.mono (by decide)) (by rfl) T.g_is_set T.F_is_set.kp T.b_is_set .nil pass0 (pa_cons (pv 3) pa_nil)))) (pss_one ps_never) pss_nil)
      (pss_cons (ps_expr (pe_call (ok_check_least T) (hr.mono (by decide)) (by rfl) T.g_check_least T.F_check_least.kp T.b_check_least .nil pass0 (pa_cons pe_str (pa_cons (pv 4) (pa_cons pe_int pa_nil)))))
      (pss_cons (ps_expr (pe_call (ok_check_least T) (hr.mono (by decide)) (by rfl) T.g_check_least T.F_check_least.kp T.b_check_least .nil pass0 (pa_cons pe_str (pa_cons (pv 5) (pa_cons pe_int pa_nil)))))
      (pss_cons (ps_expr (pe_call (ok_check_least T) (hr.mono (by decide)) (by rfl) T.g_check_least T.F_check_least.kp T.b_check_least .nil pass0 (pa_cons pe_str (pa_cons (pv 6) (pa_cons pe_int pa_nil)))))
      (pss_cons (ps_expr (pe_call (ok_check_least T) (hr.mono (by decide)) (by rfl) T.g_check_least T.F_check_least.kp T.b_check_least .nil pass0 (pa_cons pe_str (pa_cons (pv 7) (pa_cons pe_int pa_nil)))))
      (pss_cons (ps_if (pt_cmpR op_gt (pv 7) (pe_glob (v := .int 8) (by rfl) T.c_MOST_IN_BUNDLE ⟨_, rfl⟩) (nomark _)) (pss_one ps_never) pss_nil)
      (pss_cons (ps_fld (pv 0) (pe_callTy cq_listOf (by rfl) T.z_list boot_list (pa_cons (pv 2) pa_nil)) rfl)
      (pss_cons (ps_fld (pv 0) (pv 3) rfl)
      (pss_cons (ps_fld (pv 0) (pv 4) rfl)
      (pss_cons (ps_fld (pv 0) (pv 5) rfl)
      (pss_cons (ps_fld (pv 0) (pv 6) rfl)
      (pss_one (ps_fld (pv 0) (pv 7) rfl)))))))))))))))))), ?_⟩
    (dsimp only [cxOf, Cx.nox, Cx.wish, L2.start, List.map, List.length, List.replicate, List.cons_append, List.nil_append, List.append_eq, Nat.reduceSub, Nat.reduceAdd])
    walk_at "my_rd"
    refine ⟨_, tl, tv, rfl, sqL htl, fun H1 sm1 => ?_⟩
    walk_at "my_rd"
    refine ⟨_, bl, bv, rfl, sqL (sm1 _ _ hbl), fun H2 sm2 => ?_⟩
    have sm2 := Same.trans sm1 sm2
    walk_at "my_rd"
    refine q_dNew fun td ntd => ?_
    walk_at "my_rd"
    have hx2 := sm2 _ _ hx
    have nxd : x ≠ td := ne_of_none hx2 ntd
    have htd0 : H td = none := Same.free sm2 ntd
    refine q_fputK (upd_new ntd hx2) T.cl_Config T.n_Config_tokens (by show 0 < 1000; decide) ?_
    walk_at "my_rd"
    generalize hH3 : upd (upd H2 td (.dK [])) x _ = H3
    have hx3 : H3 x = some (.ins T.C_Config dx (putF "_tokens" (.ref td) [])) := by rw [← hH3]; exact upd_same
    have hd3 : H3 td = some (.dK []) := by rw [← hH3]; exact upd_other nxd.symm upd_same
    have kp3 : Kp x H H3 := by rw [← hH3]; exact Kp.upd (Kp.new (Same.kp sm2) htd0)
    have ntx : tl ≠ x := ne_of htl hx (by intro z; cases z)
    have nbx : bl ≠ x := ne_of hbl hx (by intro z; cases z)
    have lk0 : (putF "_tokens" (V.ref td) []).lookup ("_tokens" : Str) = some (.ref td) := rfl
    refine q_forL (sqL (Kp.get kp3 htl ntx)) (fun i σ H' => ∃ (kvs : List (Key × V)) (rv : Option V), σ = [some (.ref x), some (.ref tl), some (.ref bl), some (.ref g), some (.int c.depth), some (.int c.window), some (.int c.delay), some (.int c.bundle), rv] ∧
        H' x = some (.ins T.C_Config dx (putF "_tokens" (.ref td) [])) ∧ H' td = some (.dK kvs) ∧ TabAt H' kvs (c.toks.take i) ∧ Kp x H H')
      ⟨[], none, rfl, hx3, hd3, ⟨rfl, fun t ht => by simp at ht⟩, kp3⟩ (fun i σ H' _ ⟨_, _, _, _, _, _, kp⟩ => sqL (Kp.get kp htl ntx)) ?_ ?_
    · rintro i v σ H' hv ⟨kvs, rv, rfl, hx', hd', hTab, kp⟩
      obtain ⟨t, r, ht, rfl, hr0⟩ := hT.item hv
      have hr1 : H' r = some (.tup t.v) := Kp.get kp hr0 (ne_of hr0 hx (by intro z; cases z))
      have hmem := List.mem_of_getElem? ht
      have hnew : t.name ∉ (c.toks.take i).map TokR.name := by
        intro hm
        have h3 : ((c.toks.take (i + 1)).map TokR.name).Nodup := (List.Sublist.map _ (List.take_sublist _ _)).nodup hc.tn
        rw [take_snoc ht, List.map_append] at h3
        exact (List.nodup_append.mp h3).2.2 t.name hm t.name (by simp) rfl
      walk_at "my_rd"
      refine ⟨r, t, rfl, hr1, hc.t t hmem, fun H4 sm4 => ?_⟩
      have hx4 := sm4 _ _ hx'
      have hd4 := sm4 _ _ hd'
      have hr4 : H4 r = some (.tup [.str t.name, .str t.home, .int t.scale, .int t.limit, .int t.large]) := sm4 _ _ hr1
      have hTab4 : TabAt H4 kvs (c.toks.take i) := hTab.mono fun b ys q => sm4 _ _ q
      walk_at "my_rd"
      refine q_fldK hx4 T.cl_Config T.n_Config_tokens lk0 ?_
      walk_at "my_rd"
      rw [hTab4.has, decide_eq_false hnew]
      walk_at "my_rd"
      refine q_fldK hx4 T.cl_Config T.n_Config_tokens lk0 ?_
      walk_at "my_rd"
      have hvn : valV kvs (Sum.inr t.name) = none := by
        have := hTab4.has t.name
        rw [decide_eq_false hnew] at this
        cases q : valV kvs (Sum.inr t.name) with
        | none => rfl
        | some _ => rw [q] at this; cases this
      refine q_dPutS hd4 (by rw [hTab4.len, List.length_take]; exact small1000 (by have := hc.tl; omega)) ?_
      walk_at "my_rd"
      have ett : c.toks.take (i + 1) = c.toks.take i ++ [t] := take_snoc ht
      have smu : ∀ b ys, H4 b = some (HO.tup ys) → upd H4 td (.dK (putK kvs (Sum.inr t.name) (.ref r))) b = some (.tup ys) := fun b ys q => upd_other (ne_of q hd4 (by intro z; cases z)) q
      refine ⟨putK kvs (Sum.inr t.name) (.ref r), _, rfl, upd_other nxd hx4, upd_same, ⟨?_, ?_⟩, Kp.new (Kp.trans kp (Same.kp sm4)) htd0⟩
      · rw [putK_new _ hvn, List.map_append, hTab4.keys, ett, List.map_append, List.map_append]
        rfl
      · intro t' ht'
        rw [ett] at ht'
        rw [valV_put hvn]
        rcases List.mem_append.mp ht' with h | h
        · obtain ⟨r', h1, h2⟩ := hTab4.at_ t' h
          refine ⟨r', ?_, smu _ _ h2⟩
          rw [if_neg, h1]
          intro e
          injection e with e
          exact hnew (e ▸ List.mem_map.mpr ⟨t', h, rfl⟩)
        · have e := List.mem_singleton.mp h
          subst e
          exact ⟨r, by rw [if_pos rfl], smu _ _ hr4⟩
    · rintro σ H4 ⟨kvs, rv, rfl, hx4, hd4, hTab4, kp4⟩
      have et : c.toks.take tv.length = c.toks := List.take_of_length_le (by rw [hT.len]; exact Nat.le_refl _)
      rw [et] at hTab4
      walk_at "my_rd"
      refine q_forL (sqL (Kp.get kp4 hbl nbx)) (fun i σ H' => ∃ (rv : Option V), σ = [some (.ref x), some (.ref tl), some (.ref bl), some (.ref g), some (.int c.depth), some (.int c.window), some (.int c.delay), some (.int c.bundle), rv] ∧ Same H4 H')
        ⟨_, rfl, Same.refl _⟩ (fun i σ H' _ ⟨_, _, sm⟩ => sqL (sm _ _ (Kp.get kp4 hbl nbx))) ?_ ?_
      · rintro i v σ H' hv ⟨rv, rfl, sm⟩
        obtain ⟨b, r, hb, rfl, hr0⟩ := hB.item hv
        have hr1 : H' r = some (.tup b.v) := sm _ _ (Kp.get kp4 hr0 (ne_of hr0 hx (by intro z; cases z)))
        walk_at "my_rd"
        refine q_fldK (sm _ _ hx4) T.cl_Config T.n_Config_tokens lk0 ?_
        walk_at "my_rd"
        refine ⟨r, td, b, kvs, c.toks, rfl, hr1, sm _ _ hd4, hTab4.mono fun b ys q => sm _ _ q, hc.b b (List.mem_of_getElem? hb), fun H5 sm5 => ?_⟩
        walk_at "my_rd"
        exact ⟨_, rfl, Same.trans sm sm5⟩
      · rintro σ H5 ⟨rv, rfl, sm5⟩
        have kp5 := Kp.trans kp4 (Same.kp sm5)
        have hG5 : TupDp K H5 (.ref g) gd := hG.mono fun b ys q => Kp.get kp5 q (ne_of q hx (by intro z; cases z))
        walk_at "my_rd"
        refine ⟨.ref g, gd, rfl, hG5.dp, hfine, fun H6 sm6 => ?_⟩
        rw [hset]
        walk_at "my_rd"
        refine ⟨_, c.depth, 1, rfl, hc.d, fun H7 sm7 => ?_⟩
        walk_at "my_rd"
        refine ⟨_, c.window, 1, rfl, hc.w, fun H8 sm8 => ?_⟩
        walk_at "my_rd"
        refine ⟨_, c.delay, 0, rfl, hc.y, fun H9 sm9 => ?_⟩
        walk_at "my_rd"
        refine ⟨_, c.bundle, 1, rfl, hc.u, fun H10 sm10 => ?_⟩
        walk_at "my_rd"
        rw [decide_eq_false (show ¬ (8 : Int) < c.bundle by have := hc.u8; omega)]
        walk_at "my_rd"
        have sm : Same H4 H10 := Same.trans sm5 (Same.trans sm6 (Same.trans sm7 (Same.trans sm8 (Same.trans sm9 sm10))))
        have kp10 : Kp x H H10 := Kp.trans kp4 (Same.kp sm)
        refine q_listL (sqL (Kp.get kp10 hbl nbx)) fun nb nnb => ?_
        walk_at "my_rd"
        have hx10 := sm _ _ hx4
        have nxb : x ≠ nb := ne_of_none hx10 nnb
        have ndb : td ≠ nb := ne_of_none (sm _ _ hd4) nnb
        have hnb0 : H nb = none := Kp.fresh kp10 hx nnb nxb.symm
        refine q_fputK (upd_new nnb hx10) T.cl_Config T.n_Config_balances (by show 1 < 1000; decide) ?_
        walk_at "my_rd"
        refine q_fputK upd_same T.cl_Config T.n_Config_guards (by show _ < 1000; exact Nat.lt_of_le_of_lt (q_fldlen (n := 1) (by show 1 ≤ 1; decide)) (by decide)) ?_
        walk_at "my_rd"
        refine q_fputK upd_same T.cl_Config T.n_Config_depth (Nat.lt_of_le_of_lt (q_fldlen (n := 2) (q_fldlen (n := 1) (by show 1 ≤ 1; decide))) (by decide)) ?_
        walk_at "my_rd"
        refine q_fputK upd_same T.cl_Config T.n_Config_window (Nat.lt_of_le_of_lt (q_fldlen (n := 3) (q_fldlen (n := 2) (q_fldlen (n := 1) (by show 1 ≤ 1; decide)))) (by decide)) ?_
        walk_at "my_rd"
        refine q_fputK upd_same T.cl_Config T.n_Config_delay (Nat.lt_of_le_of_lt (q_fldlen (n := 4) (q_fldlen (n := 3) (q_fldlen (n := 2) (q_fldlen (n := 1) (by show 1 ≤ 1; decide))))) (by decide)) ?_
        walk_at "my_rd"
        refine q_fputK upd_same T.cl_Config T.n_Config_bundle (Nat.lt_of_le_of_lt (q_fldlen (n := 5) (q_fldlen (n := 4) (q_fldlen (n := 3) (q_fldlen (n := 2) (q_fldlen (n := 1) (by show 1 ≤ 1; decide)))))) (by decide)) ?_
        walk_at "my_rd"
        rw [upd_upd, upd_upd, upd_upd, upd_upd, upd_upd]
        have kpU : ∀ o, Kp x H (upd (upd H10 nb (.lst bv)) x o) := fun o => Kp.upd (Kp.new kp10 hnb0)
        have tupU : ∀ o b ys, H10 b = some (HO.tup ys) → upd (upd H10 nb (.lst bv)) x o b = some (.tup ys) := fun o b ys q => upd_other (ne_of q hx10 (by intro z; cases z)) (upd_new nnb q)
        refine k _ ⟨⟨dx, _, td, nb, kvs, bv, upd_same, ?_, ?_, ?_, ?_, ?_, ?_, ?_, ?_, upd_other nxd.symm (upd_new nnb (sm _ _ hd4)), (hTab4.mono fun b ys q => sm _ _ q).mono (tupU _), upd_other nxb.symm upd_same, ?_⟩⟩ (kpU _)
        · (repeat first | rfl | rw [lookup_putF, if_pos rfl] | rw [lookup_putF, if_neg (by decide +kernel)])
        · (repeat first | rfl | rw [lookup_putF, if_pos rfl] | rw [lookup_putF, if_neg (by decide +kernel)])
        · (repeat first | rfl | rw [lookup_putF, if_pos rfl] | rw [lookup_putF, if_neg (by decide +kernel)])
        · (repeat first | rfl | rw [lookup_putF, if_pos rfl] | rw [lookup_putF, if_neg (by decide +kernel)])
        · (repeat first | rfl | rw [lookup_putF, if_pos rfl] | rw [lookup_putF, if_neg (by decide +kernel)])
        · (repeat first | rfl | rw [lookup_putF, if_pos rfl] | rw [lookup_putF, if_neg (by decide +kernel)])
        · (repeat first | rfl | rw [lookup_putF, if_pos rfl] | rw [lookup_putF, if_neg (by decide +kernel)])
        · intro m hm
          have hne : ∀ z ∈ cfgNames, ¬ m = z := fun z hz e => hm (e ▸ hz)
          rw [lookup_putF, if_neg (hne _ (by decide +kernel)), lookup_putF, if_neg (hne _ (by decide +kernel)), lookup_putF, if_neg (hne _ (by decide +kernel)), lookup_putF, if_neg (hne _ (by decide +kernel)), lookup_putF, if_neg (hne _ (by decide +kernel)), lookup_putF, if_neg (hne _ (by decide +kernel)), lookup_putF, if_neg (hne _ (by decide +kernel))]
          rfl
        · exact (hB.kp hx kp10).mono (tupU _)
end

local macro_rules | `(tactic| walk_at "my_rd") => `(tactic| (repeat first
  | with_reducible refine q_tCons ?_
  | ((with_reducible apply q_var); (focus (exact rfl)))
  | with_reducible refine q_c ?_
  | ((with_reducible apply q_nxE); (focus (with_reducible exact rfl)))
  | with_reducible refine q_bK ?_
  | with_reducible refine q_call ?_
  | with_reducible refine q_callK ?_
  | with_reducible refine q_tNil ?_
  | with_reducible refine q_cb ?_
  | with_reducible refine q_seq ?_
  | with_reducible refine q_asg ?_
  | with_reducible refine q_gName ?_
  | with_reducible refine q_op ?_
  | with_reducible refine q_test ?_
  | with_reducible refine q_tB ?_
  | with_reducible refine q_ifS ?_
  | with_reducible refine q_ret ?_
  | ((with_reducible apply q_rtE); (focus (with_reducible exact rfl)))
  | with_reducible refine q_next ?_
  | with_reducible refine q_ifF ?_
  | with_reducible refine q_ifT ?_
  | with_reducible refine q_drop ?_
  | with_reducible refine q_and ?_
  | with_reducible refine q_or ?_
  | with_reducible refine q_andT ?_
  | with_reducible refine q_andF ?_
  | with_reducible refine q_orF ?_
  | with_reducible refine q_orT ?_
  | with_reducible refine q_andV ?_
  | with_reducible refine q_andVT ?_
  | with_reducible refine q_andVF ?_
  | with_reducible refine q_orV ?_
  | with_reducible refine q_gCons ?_
  | with_reducible refine q_gNil ?_
  | with_reducible refine q_tup ?_
  | with_reducible refine q_lst ?_
  | with_reducible refine q_not ?_
  | with_reducible refine q_notKT ?_
  | with_reducible refine q_notKF ?_
  | with_reducible refine q_I0 ?_
  | with_reducible refine q_eqI ?_
  | with_reducible refine q_neI ?_
  | ((with_reducible refine q_I ?_ ?_); first | decide | omega | exact ⟨by omega, by omega⟩ | exact ⟨by decide, by decide⟩ | exact .inl ⟨by omega, by omega⟩ | exact .inr ⟨by omega, by omega⟩ | exact .inr ⟨by decide, by decide⟩)
  | with_reducible refine q_eqS ?_
  | with_reducible refine q_neS ?_
  | with_reducible refine q_brk ?_
  | with_reducible refine q_ct ?_
  | ((with_reducible apply q_bkE); (focus (with_reducible exact rfl)))
  | ((with_reducible apply q_cnE); (focus (with_reducible exact rfl)))
  | with_reducible refine q_retN ?_
  | with_reducible refine q_gSub ?_
  | with_reducible refine q_for ?_
  | with_reducible refine q_iList ?_
  | with_reducible refine q_iTup ?_
  | with_reducible refine q_iRng1 ?_
  | with_reducible refine q_notK ?_
  | with_reducible refine q_orVT ?_
  | with_reducible refine q_orVF ?_
  | with_reducible refine q_notV ?_
  | with_reducible refine q_notVK ?_
  | with_reducible refine q_ifE ?_
  | with_reducible refine q_ifET ?_
  | with_reducible refine q_ifEF ?_
  | with_reducible refine q_yes ?_
  | with_reducible refine q_un ?_
  | with_reducible refine q_rU ?_
  | with_reducible refine q_abs ?_
  | with_reducible refine q_int1 ?_
  | with_reducible refine q_bm ?_
  | with_reducible refine q_bm0 ?_
  | with_reducible refine q_lc ?_
  | with_reducible refine q_keepT ?_
  | with_reducible refine q_keepF ?_
  | ((with_reducible apply q_aug); (focus (exact rfl)))
  | with_reducible refine q_ipI ?_
  | with_reducible refine q_chain ?_
  | with_reducible refine q_pairC ?_
  | with_reducible refine q_pairsK ?_
  | with_reducible refine q_pairN ?_
  | with_reducible refine q_fld ?_
  | with_reducible refine q_sFld ?_
  | with_reducible refine q_meth ?_
  | with_reducible refine q_makeK ?_
  | with_reducible refine q_isBl ?_
  | with_reducible refine q_notBl ?_
  | with_reducible refine q_sl ?_
  | with_reducible refine q_noPart ?_
  | with_reducible refine q_part ?_
  | with_reducible refine q_partK ?_
  | ((with_reducible apply q_mulStr); (focus (decide +kernel)))
  | with_reducible refine q_chT ?_
  | with_reducible refine q_chF ?_
  | with_reducible refine q_ord ?_
  | with_reducible refine q_iStr0 ?_
  | with_reducible refine q_iStr ?_
  | with_reducible refine q_tDIn ?_
  | with_reducible refine q_tDNotIn ?_
  | with_reducible refine q_tDGet ?_
  | with_reducible refine q_tDGet2 ?_
  | with_reducible refine q_tDGet1 ?_
  | with_reducible refine q_tDSetd ?_
  | ((with_reducible apply q_dG2a); (focus ((repeat first | (with_reducible exact upd_same) | (with_reducible assumption) | (with_reducible apply upd_new (by assumption)) | (with_reducible apply upd_other (by first | assumption | exact Ne.symm (by assumption))) | (with_reducible refine' Kp.get (by assumption) ?_ (by first | assumption | exact Ne.symm (by assumption))) | (with_reducible apply Same.get (by assumption))); done)))
  | ((with_reducible apply q_dSda); (focus ((repeat first | (with_reducible exact upd_same) | (with_reducible assumption) | (with_reducible apply upd_new (by assumption)) | (with_reducible apply upd_other (by first | assumption | exact Ne.symm (by assumption))) | (with_reducible refine' Kp.get (by assumption) ?_ (by first | assumption | exact Ne.symm (by assumption))) | (with_reducible apply Same.get (by assumption))); done)))
  | with_reducible refine q_sDPut ?_
  | ((with_reducible apply q_dInS); (focus ((repeat first | (with_reducible exact upd_same) | (with_reducible assumption) | (with_reducible apply upd_new (by assumption)) | (with_reducible apply upd_other (by first | assumption | exact Ne.symm (by assumption))) | (with_reducible refine' Kp.get (by assumption) ?_ (by first | assumption | exact Ne.symm (by assumption))) | (with_reducible apply Same.get (by assumption))); done)))
  | ((with_reducible apply q_dNInS); (focus ((repeat first | (with_reducible exact upd_same) | (with_reducible assumption) | (with_reducible apply upd_new (by assumption)) | (with_reducible apply upd_other (by first | assumption | exact Ne.symm (by assumption))) | (with_reducible refine' Kp.get (by assumption) ?_ (by first | assumption | exact Ne.symm (by assumption))) | (with_reducible apply Same.get (by assumption))); done)))
  | ((with_reducible apply q_dInI); (focus ((repeat first | (with_reducible exact upd_same) | (with_reducible assumption) | (with_reducible apply upd_new (by assumption)) | (with_reducible apply upd_other (by first | assumption | exact Ne.symm (by assumption))) | (with_reducible refine' Kp.get (by assumption) ?_ (by first | assumption | exact Ne.symm (by assumption))) | (with_reducible apply Same.get (by assumption))); done)))
  | ((with_reducible apply q_dNInI); (focus ((repeat first | (with_reducible exact upd_same) | (with_reducible assumption) | (with_reducible apply upd_new (by assumption)) | (with_reducible apply upd_other (by first | assumption | exact Ne.symm (by assumption))) | (with_reducible refine' Kp.get (by assumption) ?_ (by first | assumption | exact Ne.symm (by assumption))) | (with_reducible apply Same.get (by assumption))); done)))
  | ((with_reducible apply q_bmL); (focus ((repeat first | (with_reducible exact upd_same) | (with_reducible assumption) | (with_reducible apply upd_new (by assumption)) | (with_reducible apply upd_other (by first | assumption | exact Ne.symm (by assumption))) | (with_reducible refine' Kp.get (by assumption) ?_ (by first | assumption | exact Ne.symm (by assumption))) | (with_reducible apply Same.get (by assumption))); done)))
  | ((with_reducible apply q_bmL0); (focus ((repeat first | (with_reducible exact upd_same) | (with_reducible assumption) | (with_reducible apply upd_new (by assumption)) | (with_reducible apply upd_other (by first | assumption | exact Ne.symm (by assumption))) | (with_reducible refine' Kp.get (by assumption) ?_ (by first | assumption | exact Ne.symm (by assumption))) | (with_reducible apply Same.get (by assumption))); done)))
  | ((with_reducible apply q_ixLt); (focus ((repeat first | (with_reducible exact upd_same) | (with_reducible assumption) | (with_reducible apply upd_new (by assumption)) | (with_reducible apply upd_other (by first | assumption | exact Ne.symm (by assumption))) | (with_reducible refine' Kp.get (by assumption) ?_ (by first | assumption | exact Ne.symm (by assumption))) | (with_reducible apply Same.get (by assumption))); done)); (focus (exact rfl)))
  | ((with_reducible apply q_ixTt); (focus ((repeat first | (with_reducible exact upd_same) | (with_reducible assumption) | (with_reducible apply upd_new (by assumption)) | (with_reducible apply upd_other (by first | assumption | exact Ne.symm (by assumption))) | (with_reducible refine' Kp.get (by assumption) ?_ (by first | assumption | exact Ne.symm (by assumption))) | (with_reducible apply Same.get (by assumption))); done)); (focus (exact rfl)))
  | ((with_reducible apply q_lenLt); (focus ((repeat first | (with_reducible exact upd_same) | (with_reducible assumption) | (with_reducible apply upd_new (by assumption)) | (with_reducible apply upd_other (by first | assumption | exact Ne.symm (by assumption))) | (with_reducible refine' Kp.get (by assumption) ?_ (by first | assumption | exact Ne.symm (by assumption))) | (with_reducible apply Same.get (by assumption))); done)))
  | ((with_reducible apply q_lenTt); (focus ((repeat first | (with_reducible exact upd_same) | (with_reducible assumption) | (with_reducible apply upd_new (by assumption)) | (with_reducible apply upd_other (by first | assumption | exact Ne.symm (by assumption))) | (with_reducible refine' Kp.get (by assumption) ?_ (by first | assumption | exact Ne.symm (by assumption))) | (with_reducible apply Same.get (by assumption))); done)))
  | ((with_reducible apply q_append); (focus ((repeat first | (with_reducible exact upd_same) | (with_reducible assumption) | (with_reducible apply upd_new (by assumption)) | (with_reducible apply upd_other (by first | assumption | exact Ne.symm (by assumption))) | (with_reducible refine' Kp.get (by assumption) ?_ (by first | assumption | exact Ne.symm (by assumption))) | (with_reducible apply Same.get (by assumption))); done)); (focus ((first | (exact Nat.lt_of_ble_eq_true rfl) | (simp only [List.length_append, List.length_cons, List.length_nil, List.length_map]; exact small1000 (by omega))))))
  | ((with_reducible apply q_setL); (focus ((repeat first | (with_reducible exact upd_same) | (with_reducible assumption) | (with_reducible apply upd_new (by assumption)) | (with_reducible apply upd_other (by first | assumption | exact Ne.symm (by assumption))) | (with_reducible refine' Kp.get (by assumption) ?_ (by first | assumption | exact Ne.symm (by assumption))) | (with_reducible apply Same.get (by assumption))); done)); (focus (exact rfl)))
  | with_reducible refine q_ifNT ?_
  | with_reducible refine q_ifNF ?_
  | with_reducible refine q_andNT ?_
  | with_reducible refine q_andNF ?_
  | with_reducible refine q_orNT ?_
  | with_reducible refine q_orNF ?_
  | with_reducible refine q_bKNT ?_
  | with_reducible refine q_bKNF ?_
  | with_reducible refine q_tNGet ?_
  | with_reducible refine q_tNIn ?_
  | with_reducible refine q_sNPut ?_
  | with_reducible refine q_sFldAug ?_
  | with_reducible refine q_sDAug ?_
  | with_reducible refine q_sDDel ?_
  | with_reducible refine q_forX ?_
  | with_reducible refine q_tMake ?_
  | ((with_reducible apply q_dG1a); (focus ((repeat first | (with_reducible exact upd_same) | (with_reducible assumption) | (with_reducible apply upd_new (by assumption)) | (with_reducible apply upd_other (by first | assumption | exact Ne.symm (by assumption))) | (with_reducible refine' Kp.get (by assumption) ?_ (by first | assumption | exact Ne.symm (by assumption))) | (with_reducible apply Same.get (by assumption))); done)))))
def Parts.homeOf (c : Parts) (s : Str) : Str := ((c.toks.find? fun t => decide (t.name = s)).map TokR.home).getD ""
theorem find_name {ts : List TokR} (hn : (ts.map TokR.name).Nodup) {t : TokR} (ht : t ∈ ts) : (ts.find? fun u => decide (u.name = t.name)) = some t := by
  induction ts with
  | nil => cases ht
  | cons u r ih =>
    obtain ⟨h1, h2⟩ := List.nodup_cons.mp (show (u.name :: r.map TokR.name).Nodup from hn)
    rw [List.find?_cons]
    rcases List.mem_cons.mp ht with e | e
    · subst e
      rw [decide_eq_true rfl]
    · have : ¬ u.name = t.name := fun q => h1 (q ▸ List.mem_map.mpr ⟨t, e, rfl⟩)
      rw [decide_eq_false this]
      exact ih h2 e
theorem Parts.home_eq {c : Parts} (h : c.Ok) {t : TokR} (ht : t ∈ c.toks) : c.homeOf t.name = t.home := by
  unfold Parts.homeOf
  rw [find_name h.tn ht]
  rfl
def sp_getI (C : Addr) (f : Parts → Int) : Sp := fun vs H Q _ => ∃ (x g : Addr) (c : Parts), vs = [.ref x] ∧ CfgAt C c g H x ∧ Q (.int (f c)) H
def sp_guards (C : Addr) : Sp := fun vs H Q _ => ∃ (x g : Addr) (c : Parts), vs = [.ref x] ∧ CfgAt C c g H x ∧ Q (.ref g) H
def sp_tokchk (C : Addr) : Sp := fun vs H Q _ => ∃ (x g : Addr) (c : Parts) (t : TokR), vs = [.ref x, .str t.name] ∧ CfgAt C c g H x ∧ t ∈ c.toks ∧ Q .non H
def sp_tok (C : Addr) (f : TokR → V) : Sp := fun vs H Q _ => ∃ (x g : Addr) (c : Parts) (t : TokR), vs = [.ref x, .str t.name] ∧ CfgAt C c g H x ∧ t ∈ c.toks ∧ Q (f t) H
def sp_opening (C : Addr) : Sp := fun vs H Q _ => ∃ (x g : Addr) (c : Parts) (s : Str), vs = [.ref x, .str s] ∧ CfgAt C c g H x ∧ c.Ok ∧ ∀ (p : Addr) (ys : List V) (H' : Hp), H p = none → H' p = some (.lst ys) → RowsAt BalR.v H' ys (c.bals.filter fun b => decide (c.homeOf b.tok = s)) → Same H H' → Q (.ref p) H'
section
variable {P : Program} {w : World} {K : PySem.W.Frag} {mg : Str → Option Value} {base : Heap}
theorem ok_Config_depth (T : Txt K mg) : FnOk P w K mg base CX0 1 T.f_Config_depth T.d_Config_depth ["self"] (sp_getI T.C_Config Parts.depth) := by
  refine T.F_Config_depth.ok sc_Config_depth (fun vs H Q E h => ?_) (fun cdv A outer s H vs Q E hr h => ?_)
  · obtain ⟨x, g, c, rfl, _⟩ := h; rfl
  · obtain ⟨x, g, c, rfl, hC, k⟩ := h
    obtain ⟨dx, fs, td, bl, kvs, bv, h1, h2, h3, h4, h5, h6, h7, h8, h9, h10, h11, h12, h13⟩ := hC.ex
    refine ⟨_, (pss_one (ps_ret (pe_fld (pv 0) rfl))), ?_⟩
    (dsimp only [cxOf, Cx.nox, Cx.wish, L2.start, List.map, List.length, List.replicate, List.cons_append, List.nil_append, List.append_eq, Nat.reduceSub, Nat.reduceAdd])
    walk_at "my_rd"
    refine q_fldK h1 T.cl_Config T.n_Config_depth h5 ?_
    exact k
theorem ok_Config_window (T : Txt K mg) : FnOk P w K mg base CX0 1 T.f_Config_window T.d_Config_window ["self"] (sp_getI T.C_Config Parts.window) := by
  refine T.F_Config_window.ok sc_Config_window (fun vs H Q E h => ?_) (fun cdv A outer s H vs Q E hr h => ?_)
  · obtain ⟨x, g, c, rfl, _⟩ := h; rfl
  · obtain ⟨x, g, c, rfl, hC, k⟩ := h
    obtain ⟨dx, fs, td, bl, kvs, bv, h1, h2, h3, h4, h5, h6, h7, h8, h9, h10, h11, h12, h13⟩ := hC.ex
    refine ⟨_, (pss_one (ps_ret (pe_fld (pv 0) rfl))), ?_⟩
    (dsimp only [cxOf, Cx.nox, Cx.wish, L2.start, List.map, List.length, List.replicate, List.cons_append, List.nil_append, List.append_eq, Nat.reduceSub, Nat.reduceAdd])
    walk_at "my_rd"
    refine q_fldK h1 T.cl_Config T.n_Config_window h6 ?_
    exact k
theorem ok_Config_delay (T : Txt K mg) : FnOk P w K mg base CX0 1 T.f_Config_delay T.d_Config_delay ["self"] (sp_getI T.C_Config Parts.delay) := by
  refine T.F_Config_delay.ok sc_Config_delay (fun vs H Q E h => ?_) (fun cdv A outer s H vs Q E hr h => ?_)
  · obtain ⟨x, g, c, rfl, _⟩ := h; rfl
  · obtain ⟨x, g, c, rfl, hC, k⟩ := h
    obtain ⟨dx, fs, td, bl, kvs, bv, h1, h2, h3, h4, h5, h6, h7, h8, h9, h10, h11, h12, h13⟩ := hC.ex
    refine ⟨_, (pss_one (ps_ret (pe_fld (pv 0) rfl))), ?_⟩
    (dsimp only [cxOf, Cx.nox, Cx.wish, L2.start, List.map, List.length, List.replicate, List.cons_append, List.nil_append, List.append_eq, Nat.reduceSub, Nat.reduceAdd])
    walk_at "my_rd"
    refine q_fldK h1 T.cl_Config T.n_Config_delay h7 ?_
    exact k
theorem ok_Config_bundle (T : Txt K mg) : FnOk P w K mg base CX0 1 T.f_Config_bundle T.d_Config_bundle ["self"] (sp_getI T.C_Config Parts.bundle) := by
  refine T.F_Config_bundle.ok sc_Config_bundle (fun vs H Q E h => ?_) (fun cdv A outer s H vs Q E hr h => ?_)
  · obtain ⟨x, g, c, rfl, _⟩ := h; rfl
  · obtain ⟨x, g, c, rfl, hC, k⟩ := h
    obtain ⟨dx, fs, td, bl, kvs, bv, h1, h2, h3, h4, h5, h6, h7, h8, h9, h10, h11, h12, h13⟩ := hC.ex
    refine ⟨_, (pss_one (ps_ret (pe_fld (pv 0) rfl))), ?_⟩
    (dsimp only [cxOf, Cx.nox, Cx.wish, L2.start, List.map, List.length, List.replicate, List.cons_append, List.nil_append, List.append_eq, Nat.reduceSub, Nat.reduceAdd])
    walk_at "my_rd"
    refine q_fldK h1 T.cl_Config T.n_Config_bundle h8 ?_
    exact k
theorem ok_Config_guards (T : Txt K mg) : FnOk P w K mg base CX0 1 T.f_Config_guards T.d_Config_guards ["self"] (sp_guards T.C_Config) := by
  refine T.F_Config_guards.ok sc_Config_guards (fun vs H Q E h => ?_) (fun cdv A outer s H vs Q E hr h => ?_)
  · obtain ⟨x, g, c, rfl, _⟩ := h; rfl
  · obtain ⟨x, g, c, rfl, hC, k⟩ := h
    obtain ⟨dx, fs, td, bl, kvs, bv, h1, h2, h3, h4, h5, h6, h7, h8, h9, h10, h11, h12, h13⟩ := hC.ex
    refine ⟨_, (pss_one (ps_ret (pe_fld (pv 0) rfl))), ?_⟩
    (dsimp only [cxOf, Cx.nox, Cx.wish, L2.start, List.map, List.length, List.replicate, List.cons_append, List.nil_append, List.append_eq, Nat.reduceSub, Nat.reduceAdd])
    walk_at "my_rd"
    refine q_fldK h1 T.cl_Config T.n_Config_guards h4 ?_
    exact k
theorem ok_Config_check_token (T : Txt K mg) : FnOk P w K mg base CX0 1 T.f_Config_check_token T.d_Config_check_token ["self", "token"] (sp_tokchk T.C_Config) := by
  refine T.F_Config_check_token.ok sc_Config_check_token (fun vs H Q E h => ?_) (fun cdv A outer s H vs Q E hr h => ?_)
  · obtain ⟨x, g, c, t, rfl, _⟩ := h; rfl
  · obtain ⟨x, g, c, t, rfl, hC, ht, k⟩ := h
    have hu := hu_of hr
    obtain ⟨dx, fs, td, bl, kvs, bv, h1, h2, h3, h4, h5, h6, h7, h8, h9, h10, h11, h12, h13⟩ := hC.ex
    refine ⟨_, (pss_one (ps_if (pt_cmp (pc_dnotin hu (pv 1) (pe_fld (pv 0) rfl))) (pss_one ps_never) pss_nil)), ?_⟩
    (dsimp only [cxOf, Cx.nox, Cx.wish, L2.start, List.map, List.length, List.replicate, List.cons_append, List.nil_append, List.append_eq, Nat.reduceSub, Nat.reduceAdd])
    walk_at "my_rd"
    refine q_fldK h1 T.cl_Config T.n_Config_tokens h2 ?_
    walk_at "my_rd"
    rw [h11.has, decide_eq_true (List.mem_map.mpr ⟨t, ht, rfl⟩)]
    walk_at "my_rd"
    exact k
theorem no_check_token : ("check_token" : Str) ∉ cfgNames := by decide +kernel
theorem no_home : ("home" : Str) ∉ cfgNames := by decide +kernel
theorem no_scale : ("scale" : Str) ∉ cfgNames := by decide +kernel
theorem no_opening : ("opening" : Str) ∉ cfgNames := by decide +kernel
theorem ok_Config_home (T : Txt K mg) : FnOk P w K mg base CX0 2 T.f_Config_home T.d_Config_home ["self", "token"] (sp_tok T.C_Config fun t => .str t.home) := by
  refine T.F_Config_home.ok sc_Config_home (fun vs H Q E h => ?_) (fun cdv A outer s H vs Q E hr h => ?_)
  · obtain ⟨x, g, c, t, rfl, _⟩ := h; rfl
  · obtain ⟨x, g, c, t, rfl, hC, ht, k⟩ := h
    have hu := hu_of hr
    obtain ⟨dx, fs, td, bl, kvs, bv, h1, h2, h3, h4, h5, h6, h7, h8, h9, h10, h11, h12, h13⟩ := hC.ex
    obtain ⟨r, hv, hr0⟩ := h11.at_ t ht
    have hr1 : H r = some (.tup [.str t.name, .str t.home, .int t.scale, .int t.limit, .int t.large]) := hr0
    refine ⟨_, (pss_cons (ps_expr (pe_meth (pv 0) T.cl_Config T.m_Config_check_token (ok_Config_check_token T) (hr.mono (by decide)) T.b_Config_check_token .nil pass0 (pa_cons (pv 1) pa_nil)))
      (pss_one (ps_ret (pe_ix ix_tup (pe_dget hu (pe_fld (pv 0) rfl) (pv 1) (fun _ _ => rfl)) pe_int (fun _ _ => rfl))))), ?_⟩
    (dsimp only [cxOf, Cx.nox, Cx.wish, L2.start, List.map, List.length, List.replicate, List.cons_append, List.nil_append, List.append_eq, Nat.reduceSub, Nat.reduceAdd])
    walk_at "my_rd"
    refine q_methK h1 (h9 _ no_check_token) fun R hR => ?_
    walk_at "my_rd"
    refine hR _ _ ⟨x, g, c, t, rfl, hC, ht, ?_⟩
    walk_at "my_rd"
    refine q_fldK h1 T.cl_Config T.n_Config_tokens h2 ?_
    walk_at "my_rd"
    refine q_dGetS h10 hv ?_
    walk_at "my_rd"
    exact k
theorem ok_Config_scale (T : Txt K mg) : FnOk P w K mg base CX0 2 T.f_Config_scale T.d_Config_scale ["self", "token"] (sp_tok T.C_Config fun t => .int t.scale) := by
  refine T.F_Config_scale.ok sc_Config_scale (fun vs H Q E h => ?_) (fun cdv A outer s H vs Q E hr h => ?_)
  · obtain ⟨x, g, c, t, rfl, _⟩ := h; rfl
  · obtain ⟨x, g, c, t, rfl, hC, ht, k⟩ := h
    have hu := hu_of hr
    obtain ⟨dx, fs, td, bl, kvs, bv, h1, h2, h3, h4, h5, h6, h7, h8, h9, h10, h11, h12, h13⟩ := hC.ex
    obtain ⟨r, hv, hr0⟩ := h11.at_ t ht
    have hr1 : H r = some (.tup [.str t.name, .str t.home, .int t.scale, .int t.limit, .int t.large]) := hr0
    refine ⟨_, (pss_cons (ps_expr (pe_meth (pv 0) T.cl_Config T.m_Config_check_token (ok_Config_check_token T) (hr.mono (by decide)) T.b_Config_check_token .nil pass0 (pa_cons (pv 1) pa_nil)))
      (pss_one (ps_ret (pe_ix ix_tup (pe_dget hu (pe_fld (pv 0) rfl) (pv 1) (fun _ _ => rfl)) pe_int (fun _ _ => rfl))))), ?_⟩
    (dsimp only [cxOf, Cx.nox, Cx.wish, L2.start, List.map, List.length, List.replicate, List.cons_append, List.nil_append, List.append_eq, Nat.reduceSub, Nat.reduceAdd])
    walk_at "my_rd"
    refine q_methK h1 (h9 _ no_check_token) fun R hR => ?_
    walk_at "my_rd"
    refine hR _ _ ⟨x, g, c, t, rfl, hC, ht, ?_⟩
    walk_at "my_rd"
    refine q_fldK h1 T.cl_Config T.n_Config_tokens h2 ?_
    walk_at "my_rd"
    refine q_dGetS h10 hv ?_
    walk_at "my_rd"
    exact k
theorem ok_Config_opening (T : Txt K mg) : FnOk P w K mg base CX0 3 T.f_Config_opening T.d_Config_opening ["self", "side"] (sp_opening T.C_Config) := by
  refine T.F_Config_opening.ok sc_Config_opening (fun vs H Q E h => ?_) (fun cdv A outer s H vs Q E hr h => ?_)
  · obtain ⟨x, g, c, sd, rfl, _⟩ := h; rfl
  · obtain ⟨x, g, c, sd, rfl, hC, hc, k⟩ := h
    obtain ⟨dx, fs, td, bl, kvs, bv, h1, h2, h3, h4, h5, h6, h7, h8, h9, h10, h11, h12, h13⟩ := hC.ex
    refine ⟨_, (pss_one (ps_ret (pe_lc (own := [("row", 2)]) (g := (gName 2)) (tt := (tTest (tOp rEq (tMeth T.C_Config "home" (sp_tok T.C_Config fun t => .str t.home) [] E0 (tVar 0) (tCons (tOp (rIxT K) (tVar 2) (tC (.int 1))) tNil)) (tVar 1)))) (te := (tVar 2)) rfl sc_Config_opening.nd (pi_list (pe_fld (pv 0) rfl)) (blkOk_by (own := [("row", 2)]) (N := ["self", "side", "row"]) (sc := defScope s_Config_opening) (by decide +kernel)) (fun _ _ _ _ _ => (pg_name (i := 2) sc_Config_opening.nd rfl (Or.inl rfl))) (fun _ _ _ _ _ => (pts_one (pt_cmpR op_eq (pe_meth (pv 0) T.cl_Config T.m_Config_home (ok_Config_home T) (hr.mono (by decide)) T.b_Config_home .nil pass0 (pa_cons (pe_ix ix_tup (pv 2) pe_int (fun _ _ => rfl)) pa_nil)) (pv 1) (nomark _)))) (fun _ _ _ _ _ => (pv 2))))), ?_⟩
    (dsimp only [cxOf, Cx.nox, Cx.wish, L2.start, List.map, List.length, List.replicate, List.cons_append, List.nil_append, List.append_eq, Nat.reduceSub, Nat.reduceAdd])
    walk_at "my_rd"
    refine q_fldK h1 T.cl_Config T.n_Config_balances h3 ?_
    refine q_lcL (sqL h12) (fun D nD => ⟨fun i H2 => ∃ ys, Same H H2 ∧ H2 D = some (.lst ys) ∧ RowsAt BalR.v H2 ys ((c.bals.take i).filter fun b => decide (c.homeOf b.tok = sd)), ⟨[], Same.new (Same.refl _) nD, upd_same, RowsAt.nil⟩, fun i H2 _ ⟨_, sm, _⟩ => sqL (sm _ _ h12), ?_, ?_⟩)
    · rintro i v H2 hv ⟨ys, sm, hD, hR⟩
      obtain ⟨b, r, hb, rfl, hr0⟩ := h13.item hv
      have hr1 : H2 r = some (.tup [.str b.acc, .str b.tok, .int b.amt]) := sm _ _ hr0
      have hbo := hc.b b (List.mem_of_getElem? hb)
      obtain ⟨t, ht, hte⟩ := List.mem_map.mp hbo.tm
      have et : (c.bals.take (i + 1)).filter (fun b => decide (c.homeOf b.tok = sd)) = (c.bals.take i).filter (fun b => decide (c.homeOf b.tok = sd)) ++ (if decide (c.homeOf b.tok = sd) = true then [b] else []) := by
        rw [take_snoc hb, List.filter_append, List.filter_cons, List.filter_nil]
      have eh : c.homeOf b.tok = t.home := by rw [← hte]; exact Parts.home_eq hc ht
      walk_at "my_rd"
      refine ⟨rfl, ?_⟩
      walk_at "my_rd"
      refine q_methK (sm _ _ h1) (h9 _ no_home) fun R hR2 => ?_
      walk_at "my_rd"
      refine hR2 _ _ ⟨x, g, c, t, by rw [hte], hC.same sm, ht, ?_⟩
      walk_at "my_rd"
      rw [eh] at et
      refine q_keep2 (fun h => ?_) (fun h => ?_)
      · walk_at "my_rd"
        refine q_accK hD ?_ ?_
        · rw [hR.len]
          have := List.length_filter_le (fun b => decide (c.homeOf b.tok = sd)) (c.bals.take i)
          rw [List.length_take] at this
          exact small1000 (by have := hc.bl; omega)
        · refine ⟨_, Same.new sm nD, upd_same, ?_⟩
          rw [et, if_pos h]
          exact (hR.snoc (r := b) hr1).mono fun b' ys' q => upd_other (ne_of q hD (by intro z; cases z)) q
      · refine ⟨ys, sm, hD, ?_⟩
        rw [et, if_neg (by rw [h]; exact Bool.false_ne_true), List.append_nil]
        exact hR
    · rintro H2 ⟨ys, sm, hD, hR⟩
      have e : c.bals.take bv.length = c.bals := List.take_of_length_le (by rw [h13.len]; exact Nat.le_refl _)
      rw [e] at hR
      exact k D ys H2 nD hD hR sm
end

local macro_rules | `(tactic| walk_at "my_rd") => `(tactic| (repeat first
  | with_reducible refine q_tCons ?_
  | ((with_reducible apply q_var); (focus (exact rfl)))
  | with_reducible refine q_c ?_
  | ((with_reducible apply q_nxE); (focus (with_reducible exact rfl)))
  | with_reducible refine q_bK ?_
  | with_reducible refine q_call ?_
  | with_reducible refine q_callK ?_
  | with_reducible refine q_tNil ?_
  | with_reducible refine q_cb ?_
  | with_reducible refine q_seq ?_
  | with_reducible refine q_asg ?_
  | with_reducible refine q_gName ?_
  | with_reducible refine q_op ?_
  | with_reducible refine q_test ?_
  | with_reducible refine q_tB ?_
  | with_reducible refine q_ifS ?_
  | with_reducible refine q_ret ?_
  | ((with_reducible apply q_rtE); (focus (with_reducible exact rfl)))
  | with_reducible refine q_next ?_
  | with_reducible refine q_ifF ?_
  | with_reducible refine q_ifT ?_
  | with_reducible refine q_drop ?_
  | with_reducible refine q_and ?_
  | with_reducible refine q_or ?_
  | with_reducible refine q_andT ?_
  | with_reducible refine q_andF ?_
  | with_reducible refine q_orF ?_
  | with_reducible refine q_orT ?_
  | with_reducible refine q_andV ?_
  | with_reducible refine q_andVT ?_
  | with_reducible refine q_andVF ?_
  | with_reducible refine q_orV ?_
  | with_reducible refine q_gCons ?_
  | with_reducible refine q_gNil ?_
  | with_reducible refine q_tup ?_
  | with_reducible refine q_lst ?_
  | with_reducible refine q_not ?_
  | with_reducible refine q_notKT ?_
  | with_reducible refine q_notKF ?_
  | with_reducible refine q_I0 ?_
  | with_reducible refine q_eqI ?_
  | with_reducible refine q_neI ?_
  | ((with_reducible refine q_I ?_ ?_); first | decide | omega | exact ⟨by omega, by omega⟩ | exact ⟨by decide, by decide⟩ | exact .inl ⟨by omega, by omega⟩ | exact .inr ⟨by omega, by omega⟩ | exact .inr ⟨by decide, by decide⟩)
  | with_reducible refine q_eqS ?_
  | with_reducible refine q_neS ?_
  | with_reducible refine q_brk ?_
  | with_reducible refine q_ct ?_
  | ((with_reducible apply q_bkE); (focus (with_reducible exact rfl)))
  | ((with_reducible apply q_cnE); (focus (with_reducible exact rfl)))
  | with_reducible refine q_retN ?_
  | with_reducible refine q_gSub ?_
  | with_reducible refine q_for ?_
  | with_reducible refine q_iList ?_
  | with_reducible refine q_iTup ?_
  | with_reducible refine q_iRng1 ?_
  | with_reducible refine q_notK ?_
  | with_reducible refine q_orVT ?_
  | with_reducible refine q_orVF ?_
  | with_reducible refine q_notV ?_
  | with_reducible refine q_notVK ?_
  | with_reducible refine q_ifE ?_
  | with_reducible refine q_ifET ?_
  | with_reducible refine q_ifEF ?_
  | with_reducible refine q_yes ?_
  | with_reducible refine q_un ?_
  | with_reducible refine q_rU ?_
  | with_reducible refine q_abs ?_
  | with_reducible refine q_int1 ?_
  | with_reducible refine q_bm ?_
  | with_reducible refine q_bm0 ?_
  | with_reducible refine q_lc ?_
  | with_reducible refine q_keepT ?_
  | with_reducible refine q_keepF ?_
  | ((with_reducible apply q_aug); (focus (exact rfl)))
  | with_reducible refine q_ipI ?_
  | with_reducible refine q_chain ?_
  | with_reducible refine q_pairC ?_
  | with_reducible refine q_pairsK ?_
  | with_reducible refine q_pairN ?_
  | with_reducible refine q_fld ?_
  | with_reducible refine q_sFld ?_
  | with_reducible refine q_meth ?_
  | with_reducible refine q_makeK ?_
  | with_reducible refine q_isBl ?_
  | with_reducible refine q_notBl ?_
  | with_reducible refine q_sl ?_
  | with_reducible refine q_noPart ?_
  | with_reducible refine q_part ?_
  | with_reducible refine q_partK ?_
  | ((with_reducible apply q_mulStr); (focus (decide +kernel)))
  | with_reducible refine q_chT ?_
  | with_reducible refine q_chF ?_
  | with_reducible refine q_ord ?_
  | with_reducible refine q_iStr0 ?_
  | with_reducible refine q_iStr ?_
  | with_reducible refine q_tDIn ?_
  | with_reducible refine q_tDNotIn ?_
  | with_reducible refine q_tDGet ?_
  | with_reducible refine q_tDGet2 ?_
  | with_reducible refine q_tDGet1 ?_
  | with_reducible refine q_tDSetd ?_
  | ((with_reducible apply q_dG2a); (focus ((repeat first | (with_reducible exact upd_same) | (with_reducible assumption) | (with_reducible apply upd_new (by assumption)) | (with_reducible apply upd_other (by first | assumption | exact Ne.symm (by assumption))) | (with_reducible refine' Kp.get (by assumption) ?_ (by first | assumption | exact Ne.symm (by assumption))) | (with_reducible apply Same.get (by assumption))); done)))
  | ((with_reducible apply q_dSda); (focus ((repeat first | (with_reducible exact upd_same) | (with_reducible assumption) | (with_reducible apply upd_new (by assumption)) | (with_reducible apply upd_other (by first | assumption | exact Ne.symm (by assumption))) | (with_reducible refine' Kp.get (by assumption) ?_ (by first | assumption | exact Ne.symm (by assumption))) | (with_reducible apply Same.get (by assumption))); done)))
  | with_reducible refine q_sDPut ?_
  | ((with_reducible apply q_dInS); (focus ((repeat first | (with_reducible exact upd_same) | (with_reducible assumption) | (with_reducible apply upd_new (by assumption)) | (with_reducible apply upd_other (by first | assumption | exact Ne.symm (by assumption))) | (with_reducible refine' Kp.get (by assumption) ?_ (by first | assumption | exact Ne.symm (by assumption))) | (with_reducible apply Same.get (by assumption))); done)))
  | ((with_reducible apply q_dNInS); (focus ((repeat first | (with_reducible exact upd_same) | (with_reducible assumption) | (with_reducible apply upd_new (by assumption)) | (with_reducible apply upd_other (by first | assumption | exact Ne.symm (by assumption))) | (with_reducible refine' Kp.get (by assumption) ?_ (by first | assumption | exact Ne.symm (by assumption))) | (with_reducible apply Same.get (by assumption))); done)))
  | ((with_reducible apply q_dInI); (focus ((repeat first | (with_reducible exact upd_same) | (with_reducible assumption) | (with_reducible apply upd_new (by assumption)) | (with_reducible apply upd_other (by first | assumption | exact Ne.symm (by assumption))) | (with_reducible refine' Kp.get (by assumption) ?_ (by first | assumption | exact Ne.symm (by assumption))) | (with_reducible apply Same.get (by assumption))); done)))
  | ((with_reducible apply q_dNInI); (focus ((repeat first | (with_reducible exact upd_same) | (with_reducible assumption) | (with_reducible apply upd_new (by assumption)) | (with_reducible apply upd_other (by first | assumption | exact Ne.symm (by assumption))) | (with_reducible refine' Kp.get (by assumption) ?_ (by first | assumption | exact Ne.symm (by assumption))) | (with_reducible apply Same.get (by assumption))); done)))
  | ((with_reducible apply q_bmL); (focus ((repeat first | (with_reducible exact upd_same) | (with_reducible assumption) | (with_reducible apply upd_new (by assumption)) | (with_reducible apply upd_other (by first | assumption | exact Ne.symm (by assumption))) | (with_reducible refine' Kp.get (by assumption) ?_ (by first | assumption | exact Ne.symm (by assumption))) | (with_reducible apply Same.get (by assumption))); done)))
  | ((with_reducible apply q_bmL0); (focus ((repeat first | (with_reducible exact upd_same) | (with_reducible assumption) | (with_reducible apply upd_new (by assumption)) | (with_reducible apply upd_other (by first | assumption | exact Ne.symm (by assumption))) | (with_reducible refine' Kp.get (by assumption) ?_ (by first | assumption | exact Ne.symm (by assumption))) | (with_reducible apply Same.get (by assumption))); done)))
  | ((with_reducible apply q_ixLt); (focus ((repeat first | (with_reducible exact upd_same) | (with_reducible assumption) | (with_reducible apply upd_new (by assumption)) | (with_reducible apply upd_other (by first | assumption | exact Ne.symm (by assumption))) | (with_reducible refine' Kp.get (by assumption) ?_ (by first | assumption | exact Ne.symm (by assumption))) | (with_reducible apply Same.get (by assumption))); done)); (focus (exact rfl)))
  | ((with_reducible apply q_ixTt); (focus ((repeat first | (with_reducible exact upd_same) | (with_reducible assumption) | (with_reducible apply upd_new (by assumption)) | (with_reducible apply upd_other (by first | assumption | exact Ne.symm (by assumption))) | (with_reducible refine' Kp.get (by assumption) ?_ (by first | assumption | exact Ne.symm (by assumption))) | (with_reducible apply Same.get (by assumption))); done)); (focus (exact rfl)))
  | ((with_reducible apply q_lenLt); (focus ((repeat first | (with_reducible exact upd_same) | (with_reducible assumption) | (with_reducible apply upd_new (by assumption)) | (with_reducible apply upd_other (by first | assumption | exact Ne.symm (by assumption))) | (with_reducible refine' Kp.get (by assumption) ?_ (by first | assumption | exact Ne.symm (by assumption))) | (with_reducible apply Same.get (by assumption))); done)))
  | ((with_reducible apply q_lenTt); (focus ((repeat first | (with_reducible exact upd_same) | (with_reducible assumption) | (with_reducible apply upd_new (by assumption)) | (with_reducible apply upd_other (by first | assumption | exact Ne.symm (by assumption))) | (with_reducible refine' Kp.get (by assumption) ?_ (by first | assumption | exact Ne.symm (by assumption))) | (with_reducible apply Same.get (by assumption))); done)))
  | ((with_reducible apply q_append); (focus ((repeat first | (with_reducible exact upd_same) | (with_reducible assumption) | (with_reducible apply upd_new (by assumption)) | (with_reducible apply upd_other (by first | assumption | exact Ne.symm (by assumption))) | (with_reducible refine' Kp.get (by assumption) ?_ (by first | assumption | exact Ne.symm (by assumption))) | (with_reducible apply Same.get (by assumption))); done)); (focus ((first | (exact Nat.lt_of_ble_eq_true rfl) | (simp only [List.length_append, List.length_cons, List.length_nil, List.length_map]; exact small1000 (by omega))))))
  | ((with_reducible apply q_setL); (focus ((repeat first | (with_reducible exact upd_same) | (with_reducible assumption) | (with_reducible apply upd_new (by assumption)) | (with_reducible apply upd_other (by first | assumption | exact Ne.symm (by assumption))) | (with_reducible refine' Kp.get (by assumption) ?_ (by first | assumption | exact Ne.symm (by assumption))) | (with_reducible apply Same.get (by assumption))); done)); (focus (exact rfl)))
  | with_reducible refine q_ifNT ?_
  | with_reducible refine q_ifNF ?_
  | with_reducible refine q_andNT ?_
  | with_reducible refine q_andNF ?_
  | with_reducible refine q_orNT ?_
  | with_reducible refine q_orNF ?_
  | with_reducible refine q_bKNT ?_
  | with_reducible refine q_bKNF ?_
  | with_reducible refine q_tNGet ?_
  | with_reducible refine q_tNIn ?_
  | with_reducible refine q_sNPut ?_
  | with_reducible refine q_sFldAug ?_
  | with_reducible refine q_sDAug ?_
  | with_reducible refine q_sDDel ?_
  | with_reducible refine q_forX ?_
  | with_reducible refine q_tMake ?_
  | ((with_reducible apply q_dG1a); (focus ((repeat first | (with_reducible exact upd_same) | (with_reducible assumption) | (with_reducible apply upd_new (by assumption)) | (with_reducible apply upd_other (by first | assumption | exact Ne.symm (by assumption))) | (with_reducible refine' Kp.get (by assumption) ?_ (by first | assumption | exact Ne.symm (by assumption))) | (with_reducible apply Same.get (by assumption))); done)))))
/-! the law's configuration -/
theorem RowsAt.pot {α : Type} {f : α → List V} {H H' : Hp} {xs : List V} {rs : List α} {p l : Addr} (h : RowsAt f H xs rs) (pot : PotAt H p l) (k : Kp p H H') : RowsAt f H' xs rs := h.mono fun b ys q => k.tup pot q
theorem RowsAt.updL {α : Type} {f : α → List V} {H : Hp} {xs ys zs : List V} {rs : List α} {F : Addr} (h : RowsAt f H xs rs) (hF : H F = some (.lst ys)) : RowsAt f (upd H F (.lst zs)) xs rs := h.mono fun b ws q => upd_other (ne_of q hF (by intro z; cases z)) q
theorem RowsAt.new {α : Type} {f : α → List V} {H : Hp} {xs : List V} {rs : List α} {F : Addr} {o : HO} (h : RowsAt f H xs rs) (hF : H F = none) : RowsAt f (upd H F o) xs rs := h.mono fun b ws q => upd_new hF q
theorem menu {l : List V} {r : Int} (h0 : 0 ≤ r) (h1 : r < l.length) : ∃ v, atI l r = some v ∧ v ∈ l :=
  ⟨l[r.toNat]'(by omega), at_int (n := r.toNat) (by omega) (List.getElem?_eq_getElem _), List.getElem_mem _⟩
theorem menuS {ss : List Str} {r : Int} (h0 : 0 ≤ r) (h1 : r < ss.length) : ∃ s, atI (ss.map V.str) r = some (.str s) ∧ s ∈ ss := by
  obtain ⟨v, h, m⟩ := menu (l := ss.map V.str) h0 (by rw [List.length_map]; exact h1)
  obtain ⟨s, hs, rfl⟩ := List.mem_map.mp m
  exact ⟨s, h, hs⟩
theorem menuI {ss : List Int} {r : Int} (h0 : 0 ≤ r) (h1 : r < ss.length) : ∃ s, atI (ss.map V.int) r = some (.int s) ∧ s ∈ ss := by
  obtain ⟨v, h, m⟩ := menu (l := ss.map V.int) h0 (by rw [List.length_map]; exact h1)
  obtain ⟨s, hs, rfl⟩ := List.mem_map.mp m
  exact ⟨s, h, hs⟩
def tokNames : List Str := ["coin", "gold", "iron"]
def accNames : List Str := ["ann", "bob", "cyd"]
def sideNames : List Str := ["west", "east"]
def scales : List Int := [1, 1, 7, 1000]
def limits : List Int := [10 ^ (9 : Int).toNat, 10 ^ (9 : Int).toNat, 5, 0]
def larges : List Int := [10 ^ (9 : Int).toNat, 30, 3, 1]
def amounts : List Int := [0, 5, 40, 5000, 10 ^ (6 : Int).toNat]
theorem tokNames_ok : ∀ z ∈ tokNames, shortD 12 (.str z) = true ∧ z.length ≤ 12 := by decide +kernel
theorem accNames_ok : ∀ z ∈ accNames, accD (.str z) = true ∧ z.length ≤ 20 := by decide +kernel
theorem sideNames_ok : ∀ z ∈ sideNames, sideD (.str z) = true := by decide +kernel
theorem scales_ok : ∀ z ∈ scales, 1 ≤ z ∧ z ≤ 1000 := by decide
theorem limits_ok : ∀ z ∈ limits, 0 ≤ z := by decide
theorem larges_ok : ∀ z ∈ larges, 1 ≤ z := by decide
theorem amounts_ok : ∀ z ∈ amounts, 0 ≤ z ∧ z ≤ 1000000 := by decide
theorem tokNames_nd : tokNames.Nodup := by decide +kernel
theorem gnames_ok : ∀ z ∈ allNames, accD (.str z) = true ∧ z.length ≤ 20 ∧ PyData.strOk z = true := by decide +kernel
/-- what is drawn -/
structure CfgOk (c : Parts) (gs : Gs) : Prop where
  ok : c.Ok
  ne : c.toks ≠ []
  tn : ∀ t ∈ c.toks, t.name ∈ tokNames
  th : ∀ t ∈ c.toks, t.home ∈ sideNames
  ts : ∀ t ∈ c.toks, t.scale ≤ 1000
  tl : c.toks.length ≤ 3
  gd : Drawn gs
  ba : ∀ b ∈ c.bals, b.acc ∈ accNames ∨ (gs[0]?).map (·.1) = some b.acc
  bm : ∀ b ∈ c.bals, b.amt ≤ 1000000
  bl : c.bals.length ≤ 10
  d : c.depth ≤ 3
  w : c.window ≤ 4
  y : c.delay ≤ 3
  u : c.bundle ≤ 3
def partKvs (tl bl g : Addr) (c : Parts) : List (Key × V) := [(Sum.inr "tokens", .ref tl), (Sum.inr "balances", .ref bl), (Sum.inr "guards", .ref g), (Sum.inr "depth", .int c.depth), (Sum.inr "window", .int c.window), (Sum.inr "delay", .int c.delay), (Sum.inr "bundle", .int c.bundle)]
theorem part_nd (tl bl g : Addr) (c : Parts) : ((partKvs tl bl g c).map (·.1)).Nodup := by
  show ([Sum.inr "tokens", Sum.inr "balances", Sum.inr "guards", Sum.inr "depth", Sum.inr "window", Sum.inr "delay", Sum.inr "bundle"] : List Key).Nodup
  decide +kernel
structure PartsAt (H : Hp) (d : Addr) (c : Parts) (gs : Gs) (tl bl g : Addr) (tv bv gv : List V) : Prop where
  dict : H d = some (.dK (partKvs tl bl g c))
  tl : H tl = some (.lst tv)
  tr : RowsAt TokR.v H tv c.toks
  bl : H bl = some (.lst bv)
  br : RowsAt BalR.v H bv c.bals
  gt : H g = some (.tup gv)
  gp : PairsAt H gv gs
theorem PartsAt.same {H H' : Hp} {d : Addr} {c : Parts} {gs : Gs} {tl bl g : Addr} {tv bv gv : List V} (h : PartsAt H d c gs tl bl g tv bv gv) (e : Same H H') : PartsAt H' d c gs tl bl g tv bv gv :=
  ⟨e _ _ h.dict, e _ _ h.tl, h.tr.same e, e _ _ h.bl, h.br.same e, e _ _ h.gt, h.gp.same e⟩
def sp_Lconfig : Sp := fun vs H Q _ => ∃ (p l : Addr), vs = [.ref p] ∧ PotAt H p l ∧ ∀ (d : Addr) (c : Parts) (gs : Gs) (tl bl g : Addr) (tv bv gv : List V) (H' : Hp), H d = none → H tl = none → H bl = none → PartsAt H' d c gs tl bl g tv bv gv → CfgOk c gs → PotAt H' p l → Kp p H H' → Q (.ref d) H'
section
variable {P : Program} {w : World} {K : PySem.W.Frag} {mg : Str → Option Value} {base : Heap}
theorem ok_L_config (T : Txt K mg) : FnOk P w K mg base CX0 3 T.f_L_config T.d_L_config ["pot"] sp_Lconfig := by
  refine T.F_L_config.ok sc_L_config (fun vs H Q E h => ?_) (fun cdv A outer s H vs Q E hr h => ?_)
  · obtain ⟨p, l, rfl, _⟩ := h; rfl
  · obtain ⟨p, l, rfl, pot, k⟩ := h
    obtain ⟨po, hpo⟩ := pot.at
    refine ⟨_, (pss_cons (ps_set (i := 1) sc_L_config.nd rfl (Or.inl rfl) (pe_lst pa_nil))
      (pss_cons (ps_for PassesOwn.never rfl (pi_list (pe_slice sl_list (pe_lst (pa_cons pe_str (pa_cons pe_str (pa_cons pe_str pa_nil)))) po_none (po_some (pe_op op_add pe_int (pe_call (ok_L_next T) (hr.mono (by decide)) (by rfl) T.g_L_next T.F_L_next.kp T.b_L_next .nil pass0 (pa_cons (pv 0) (pa_cons pe_int pa_nil))))))) (pg_name (i := 2) sc_L_config.nd rfl (Or.inl rfl))
        (pss_one (ps_expr (pe_bm PySem.F.plainAttrs_list PySem.F.slot_list_append PySem.F.type_list_append mt_append (pv 1) (pa_cons (pe_tup (pa_cons (pv 2) (pa_cons (pe_ix ix_list (pe_lst (pa_cons pe_str (pa_cons pe_str pa_nil))) (pe_call (ok_L_next T) (hr.mono (by decide)) (by rfl) T.g_L_next T.F_L_next.kp T.b_L_next .nil pass0 (pa_cons (pv 0) (pa_cons pe_int pa_nil))) (fun _ _ => rfl)) (pa_cons (pe_ix ix_list (pe_lst (pa_cons pe_int (pa_cons pe_int (pa_cons pe_int (pa_cons pe_int pa_nil))))) (pe_call (ok_L_next T) (hr.mono (by decide)) (by rfl) T.g_L_next T.F_L_next.kp T.b_L_next .nil pass0 (pa_cons (pv 0) (pa_cons pe_int pa_nil))) (fun _ _ => rfl)) (pa_cons (pe_ix ix_list (pe_lst (pa_cons (pe_op op_pow pe_int pe_int) (pa_cons (pe_op op_pow pe_int pe_int) (pa_cons pe_int (pa_cons pe_int pa_nil))))) (pe_call (ok_L_next T) (hr.mono (by decide)) (by rfl) T.g_L_next T.F_L_next.kp T.b_L_next .nil pass0 (pa_cons (pv 0) (pa_cons pe_int pa_nil))) (fun _ _ => rfl)) (pa_cons (pe_ix ix_list (pe_lst (pa_cons (pe_op op_pow pe_int pe_int) (pa_cons pe_int (pa_cons pe_int (pa_cons pe_int pa_nil))))) (pe_call (ok_L_next T) (hr.mono (by decide)) (by rfl) T.g_L_next T.F_L_next.kp T.b_L_next .nil pass0 (pa_cons (pv 0) (pa_cons pe_int pa_nil))) (fun _ _ => rfl)) pa_nil)))))) pa_nil)))))
      (pss_cons (ps_set (i := 3) sc_L_config.nd rfl (Or.inl rfl) (pe_lst pa_nil))
      (pss_cons (ps_for PassesOwn.never rfl (pi_list (pe_lst (pa_cons pe_str (pa_cons pe_str (pa_cons pe_str pa_nil))))) (pg_name (i := 4) sc_L_config.nd rfl (Or.inl rfl))
        (pss_one (ps_for PassesOwn.never rfl (pi_list (pv 1)) (pg_name (i := 6) sc_L_config.nd rfl (Or.inl rfl))
        (pss_one (ps_expr (pe_bm PySem.F.plainAttrs_list PySem.F.slot_list_append PySem.F.type_list_append mt_append (pv 3) (pa_cons (pe_tup (pa_cons (pv 4) (pa_cons (pe_ix ix_tup (pv 6) pe_int (fun _ _ => rfl)) (pa_cons (pe_ix ix_list (pe_lst (pa_cons pe_int (pa_cons pe_int (pa_cons pe_int (pa_cons pe_int (pa_cons (pe_op op_pow pe_int pe_int) pa_nil)))))) (pe_call (ok_L_next T) (hr.mono (by decide)) (by rfl) T.g_L_next T.F_L_next.kp T.b_L_next .nil pass0 (pa_cons (pv 0) (pa_cons pe_int pa_nil))) (fun _ _ => rfl)) pa_nil)))) pa_nil)))))))
      (pss_cons (ps_set (i := 5) sc_L_config.nd rfl (Or.inl rfl) (pe_call (ok_L_set T) (hr.mono (by decide)) (by rfl) T.g_L_set T.F_L_set.kp T.b_L_set .nil pass0 (pa_cons (pv 0) (pa_cons pe_int pa_nil))))
      (pss_cons (ps_expr (pe_bm PySem.F.plainAttrs_list PySem.F.slot_list_append PySem.F.type_list_append mt_append (pv 3) (pa_cons (pe_tup (pa_cons (pe_ix ix_tup (pe_ix ix_tup (pv 5) pe_int (fun _ _ => rfl)) pe_int (fun _ _ => rfl)) (pa_cons (pe_ix ix_tup (pe_ix ix_list (pv 1) pe_int (fun _ _ => rfl)) pe_int (fun _ _ => rfl)) (pa_cons pe_int pa_nil)))) pa_nil)))
      (pss_one (ps_ret (pe_disp (pps_cons pe_str (pv 1) (pps_cons pe_str (pv 3) (pps_cons pe_str (pv 5) (pps_cons pe_str (pe_op op_add pe_int (pe_call (ok_L_next T) (hr.mono (by decide)) (by rfl) T.g_L_next T.F_L_next.kp T.b_L_next .nil pass0 (pa_cons (pv 0) (pa_cons pe_int pa_nil)))) (pps_cons pe_str (pe_op op_add pe_int (pe_call (ok_L_next T) (hr.mono (by decide)) (by rfl) T.g_L_next T.F_L_next.kp T.b_L_next .nil pass0 (pa_cons (pv 0) (pa_cons pe_int pa_nil)))) (pps_cons pe_str (pe_call (ok_L_next T) (hr.mono (by decide)) (by rfl) T.g_L_next T.F_L_next.kp T.b_L_next .nil pass0 (pa_cons (pv 0) (pa_cons pe_int pa_nil))) (pps_cons pe_str (pe_op op_add pe_int (pe_call (ok_L_next T) (hr.mono (by decide)) (by rfl) T.g_L_next T.F_L_next.kp T.b_L_next .nil pass0 (pa_cons (pv 0) (pa_cons pe_int pa_nil)))) pps_nil))))))) (by rfl) (by rfl) (fun z => by cases z) (by decide)))))))))), ?_⟩
    (dsimp only [cxOf, Cx.nox, Cx.wish, L2.start, List.map, List.length, List.replicate, List.cons_append, List.nil_append, List.append_eq, Nat.reduceSub, Nat.reduceAdd])
    walk_at "my_rd"
    refine q_lstK (Nat.le_of_ble_eq_true rfl) fun TL nTL => ?_
    walk_at "my_rd"
    refine q_lstK (Nat.le_of_ble_eq_true rfl) fun NM nNM => ?_
    walk_at "my_rd"
    have nTLp : TL ≠ p := pot.nep nTL
    have nTLl : TL ≠ l := pot.nel nTL
    have pot1 : PotAt (upd (upd H TL (.lst [])) NM (.lst [.str "coin", .str "gold", .str "iron"])) p l := (pot.new nTL).new nNM
    have nNMp : NM ≠ p := (pot.new nTL).nep nNM
    refine ⟨p, l, 3, rfl, pot1, by omega, by omega, fun r H1 r0 r1 pot1 kp1 => ?_⟩
    have hTL1 : H1 TL = some (.lst []) := Kp.get kp1 (upd_new nNM upd_same) nTLp
    have hNM1 : H1 NM = some (.lst (tokNames.map V.str)) := Kp.get kp1 upd_same nNMp
    have kp01 : Kp p H H1 := Kp.trans (Same.kp (Same.up (Same.up (Same.refl _) nTL) nNM)) kp1
    walk_at "my_rd"
    refine q_slL (sqL hNM1) fun SL nSL => ?_
    have er : 1 + r = ((r.toNat + 1 : Nat) : Int) := by omega
    rw [er, cut_take (by rw [List.length_map]; show r.toNat + 1 ≤ 3; omega), ← List.map_take]
    have hlen : (tokNames.take (r.toNat + 1)).length = r.toNat + 1 := by rw [List.length_take]; show min (r.toNat + 1) 3 = _; omega
    generalize hH2 : upd H1 SL _ = H2
    have nSLp : SL ≠ p := pot1.nep nSL
    have nSLTL : TL ≠ SL := ne_of_none hTL1 nSL
    have hSL2 : H2 SL = some (.lst ((tokNames.take (r.toNat + 1)).map V.str)) := by rw [← hH2]; exact upd_same
    have hTL2 : H2 TL = some (.lst []) := by rw [← hH2]; exact upd_new nSL hTL1
    have pot2 : PotAt H2 p l := by rw [← hH2]; exact pot1.new nSL
    have kp02 : Kp p H H2 := by rw [← hH2]; exact Kp.new kp01 (Kp.fresh kp01 hpo nSL nSLp)
    walk_at "my_rd"
    refine q_forL (sqL hSL2) (fun i σ H' => ∃ (tv : List V) (ts : List TokR) (nv : Option V), σ = [some (.ref p), some (.ref TL), nv, none, none, none, none] ∧ H' TL = some (.lst tv) ∧ RowsAt TokR.v H' tv ts ∧ ts.map TokR.name = (tokNames.take (r.toNat + 1)).take i ∧ (∀ t ∈ ts, t.Ok) ∧ (∀ t ∈ ts, t.home ∈ sideNames) ∧ (∀ t ∈ ts, t.scale ≤ 1000) ∧
        H' SL = some (.lst ((tokNames.take (r.toNat + 1)).map V.str)) ∧ PotAt H' p l ∧ Kp p H H')
      ⟨[], [], none, rfl, hTL2, RowsAt.nil, rfl, by simp, by simp, by simp, hSL2, pot2, kp02⟩ (fun i σ H' _ ⟨_, _, _, _, _, _, _, _, _, _, h, _⟩ => sqL h) ?_ ?_
    · rintro i v σ H3 hv ⟨tv, ts, nv, rfl, hTL3, hR3, hnm, hok, hho, hsc, hSL3, pot3, kp3⟩
      have hi : i < r.toNat + 1 := by
        have := (List.getElem?_eq_some_iff.mp hv).1
        rw [List.length_map, hlen] at this
        exact this
      obtain ⟨nme, hnme, rfl⟩ : ∃ s, (tokNames.take (r.toNat + 1))[i]? = some s ∧ v = .str s := by
        rw [List.getElem?_map] at hv
        cases q : (tokNames.take (r.toNat + 1))[i]? with
        | none => rw [q] at hv; cases hv
        | some s => rw [q] at hv; exact ⟨s, rfl, (Option.some.inj hv).symm⟩
      have hmem : nme ∈ tokNames := List.mem_of_mem_take (List.mem_of_getElem? hnme)
      have hlts : ts.length = i := by
        have := congrArg List.length hnm
        rw [List.length_map, List.length_take, hlen] at this
        omega
      walk_at "my_rd"
      refine q_lstK (Nat.le_of_ble_eq_true rfl) fun M1 nM1 => ?_
      walk_at "my_rd"
      refine ⟨p, l, 2, rfl, pot3.new nM1, by omega, by omega, fun a1 H4 x0 x1 pot4 kp4 => ?_⟩
      obtain ⟨ho, hho1, hmho⟩ := menuS (ss := sideNames) x0 (by show a1 < 2; omega)
      have kp14 : Kp p H3 H4 := Kp.trans (Same.kp (Same.up (Same.refl _) nM1)) kp4
      walk_at "my_rd"
      refine q_ixLt (Kp.get kp4 upd_same (pot3.nep nM1)) hho1 ?_
      walk_at "my_rd"
      refine q_lstK (Nat.le_of_ble_eq_true rfl) fun M2 nM2 => ?_
      walk_at "my_rd"
      refine ⟨p, l, 4, rfl, pot4.new nM2, by omega, by omega, fun a2 H5 x2 x3 pot5 kp5 => ?_⟩
      obtain ⟨sc, hsc1, hmsc⟩ := menuI (ss := scales) x2 (by show a2 < 4; omega)
      have kp15 : Kp p H3 H5 := Kp.trans kp14 (Kp.trans (Same.kp (Same.up (Same.refl _) nM2)) kp5)
      walk_at "my_rd"
      refine q_ixLt (Kp.get kp5 upd_same (pot4.nep nM2)) hsc1 ?_
      walk_at "my_rd"
      refine q_lstK (Nat.le_of_ble_eq_true rfl) fun M3 nM3 => ?_
      walk_at "my_rd"
      refine ⟨p, l, 4, rfl, pot5.new nM3, by omega, by omega, fun a3 H6 x4 x5 pot6 kp6 => ?_⟩
      obtain ⟨li, hli1, hmli⟩ := menuI (ss := limits) x4 (by show a3 < 4; omega)
      have kp16 : Kp p H3 H6 := Kp.trans kp15 (Kp.trans (Same.kp (Same.up (Same.refl _) nM3)) kp6)
      walk_at "my_rd"
      refine q_ixLt (Kp.get kp6 upd_same (pot5.nep nM3)) hli1 ?_
      walk_at "my_rd"
      refine q_lstK (Nat.le_of_ble_eq_true rfl) fun M4 nM4 => ?_
      walk_at "my_rd"
      refine ⟨p, l, 4, rfl, pot6.new nM4, by omega, by omega, fun a4 H7 x6 x7 pot7 kp7 => ?_⟩
      obtain ⟨la, hla1, hmla⟩ := menuI (ss := larges) x6 (by show a4 < 4; omega)
      have kp17 : Kp p H3 H7 := Kp.trans kp16 (Kp.trans (Same.kp (Same.up (Same.refl _) nM4)) kp7)
      have kp07 : Kp p H H7 := Kp.trans kp3 kp17
      walk_at "my_rd"
      refine q_ixLt (Kp.get kp7 upd_same (pot6.nep nM4)) hla1 ?_
      walk_at "my_rd"
      refine q_tupK (Nat.le_of_ble_eq_true rfl) fun U nU => ?_
      walk_at "my_rd"
      have hTL7 : H7 TL = some (.lst tv) := Kp.get kp17 hTL3 nTLp
      have hSL7 := Kp.get kp17 hSL3 nSLp
      have nTLU : TL ≠ U := ne_of_none hTL7 nU
      have hU0 := Kp.fresh kp07 hpo nU (pot7.nep nU)
      refine q_append (upd_new nU hTL7) (by rw [hR3.len, hlts]; exact small1000 (by omega)) ?_
      walk_at "my_rd"
      have hR7 : RowsAt TokR.v (upd H7 U (.tup [.str nme, .str ho, .int sc, .int li, .int la])) (tv ++ [.ref U]) (ts ++ [⟨nme, ho, sc, li, la⟩]) := ((hR3.pot pot3 kp17).new nU).snoc upd_same
      refine ⟨tv ++ [.ref U], ts ++ [⟨nme, ho, sc, li, la⟩], _, rfl, upd_same, hR7.updL (upd_new nU hTL7), ?_, ?_, ?_, ?_, upd_other nSLTL.symm (upd_new nU hSL7), (pot7.new nU).upd nTLp nTLl, Kp.new (Kp.new kp07 hU0) nTL⟩
      · rw [List.map_append, hnm, take_snoc hnme]
        rfl
      · intro t ht
        rcases List.mem_append.mp ht with h | h
        · exact hok t h
        · rw [List.mem_singleton.mp h]
          exact ⟨(tokNames_ok _ hmem).1, (tokNames_ok _ hmem).2, sideNames_ok _ hmho, (scales_ok _ hmsc).1, limits_ok _ hmli, larges_ok _ hmla⟩
      · intro t ht
        rcases List.mem_append.mp ht with h | h
        · exact hho t h
        · rw [List.mem_singleton.mp h]; exact hmho
      · intro t ht
        rcases List.mem_append.mp ht with h | h
        · exact hsc t h
        · rw [List.mem_singleton.mp h]; exact (scales_ok _ hmsc).2
    · rintro σ H3 ⟨tv, ts, nv, rfl, hTL3, hR3, hnm, hok, hho, hsc, hSL3, pot3, kp3⟩
      have hnm2 : ts.map TokR.name = tokNames.take (r.toNat + 1) := by
        rw [hnm]
        exact List.take_of_length_le (by rw [List.length_map]; exact Nat.le_refl _)
      have hlts : ts.length = r.toNat + 1 := by
        have := congrArg List.length hnm2
        rw [List.length_map, hlen] at this
        exact this
      walk_at "my_rd"
      refine q_lstK (Nat.le_of_ble_eq_true rfl) fun BL nBL => ?_
      walk_at "my_rd"
      have nBLp : BL ≠ p := pot3.nep nBL
      have nBLl : BL ≠ l := pot3.nel nBL
      have nTLBL : TL ≠ BL := ne_of_none hTL3 nBL
      have hBL0 := Kp.fresh kp3 hpo nBL nBLp
      refine q_lstK (Nat.le_of_ble_eq_true rfl) fun AC nAC => ?_
      walk_at "my_rd"
      have nBLAC : BL ≠ AC := ne_of_none upd_same nAC
      have nTLAC : TL ≠ AC := ne_of_none (upd_new nBL hTL3) nAC
      generalize hH4 : upd (upd H3 BL _) AC _ = H4
      have hAC4 : H4 AC = some (.lst (accNames.map V.str)) := by rw [← hH4]; exact upd_same
      have hBL4 : H4 BL = some (.lst []) := by rw [← hH4]; exact upd_new nAC upd_same
      have hTL4 : H4 TL = some (.lst tv) := by rw [← hH4]; exact upd_new nAC (upd_new nBL hTL3)
      have pot4 : PotAt H4 p l := by rw [← hH4]; exact (pot3.new nBL).new nAC
      have nACp : AC ≠ p := (pot3.new nBL).nep nAC
      have sm4 : Same H3 H4 := by rw [← hH4]; (repeat first | (with_reducible exact Same.refl _) | (with_reducible assumption) | (with_reducible refine Same.up ?_ (by assumption)) | (with_reducible refine' Same.trans ?_ (by assumption)))
      have kp4 : Kp p H H4 := Kp.trans kp3 (Same.kp sm4)
      have hR4 : RowsAt TokR.v H4 tv ts := hR3.same sm4
      clear hH4
      refine q_forL (sqL hAC4) (fun i σ H' => ∃ (bv : List V) (bs : List BalR) (av tkv : Option V), σ = [some (.ref p), some (.ref TL), nv, some (.ref BL), av, none, tkv] ∧ H' BL = some (.lst bv) ∧ RowsAt BalR.v H' bv bs ∧ bs.length ≤ i * ts.length ∧ (∀ b ∈ bs, b.Ok ts) ∧ (∀ b ∈ bs, b.acc ∈ accNames) ∧ (∀ b ∈ bs, b.amt ≤ 1000000) ∧
          H' AC = some (.lst (accNames.map V.str)) ∧ H' TL = some (.lst tv) ∧ RowsAt TokR.v H' tv ts ∧ PotAt H' p l ∧ Kp p H H')
        ⟨[], [], _, _, rfl, hBL4, RowsAt.nil, by simp, by simp, by simp, by simp, hAC4, hTL4, hR4, pot4, kp4⟩ (fun i σ H' _ ⟨_, _, _, _, _, _, _, _, _, _, _, h, _⟩ => sqL h) ?_ ?_
      · rintro i v σ H5 hv ⟨bv, bs, av, tkv, rfl, hBL5, hB5, hbl, hbok, hba, hbm, hAC5, hTL5, hR5, pot5, kp5⟩
        obtain ⟨ac, hac, rfl⟩ : ∃ s, accNames[i]? = some s ∧ v = .str s := by
          rw [List.getElem?_map] at hv
          cases q : accNames[i]? with
          | none => rw [q] at hv; cases hv
          | some s => rw [q] at hv; exact ⟨s, rfl, (Option.some.inj hv).symm⟩
        have hacm := List.mem_of_getElem? hac
        have hi3 : i < 3 := (List.getElem?_eq_some_iff.mp hac).1
        walk_at "my_rd"
        refine q_forL (sqL hTL5) (fun j σ H' => ∃ (bv : List V) (bs : List BalR) (tkv : Option V), σ = [some (.ref p), some (.ref TL), nv, some (.ref BL), some (.str ac), none, tkv] ∧ H' BL = some (.lst bv) ∧ RowsAt BalR.v H' bv bs ∧ bs.length ≤ i * ts.length + j ∧ (∀ b ∈ bs, b.Ok ts) ∧ (∀ b ∈ bs, b.acc ∈ accNames) ∧ (∀ b ∈ bs, b.amt ≤ 1000000) ∧
            H' AC = some (.lst (accNames.map V.str)) ∧ H' TL = some (.lst tv) ∧ RowsAt TokR.v H' tv ts ∧ PotAt H' p l ∧ Kp p H H')
          ⟨bv, bs, _, rfl, hBL5, hB5, hbl, hbok, hba, hbm, hAC5, hTL5, hR5, pot5, kp5⟩ (fun i σ H' _ ⟨_, _, _, _, _, _, _, _, _, _, _, h, _⟩ => sqL h) ?_ ?_
        · rintro j v σ H6 hv ⟨bv, bs, tkv, rfl, hBL6, hB6, hbl, hbok, hba, hbm, hAC6, hTL6, hR6, pot6, kp6⟩
          obtain ⟨t, tr, ht, rfl, htr0⟩ := hR6.item hv
          have htr : H6 tr = some (.tup [.str t.name, .str t.home, .int t.scale, .int t.limit, .int t.large]) := htr0
          have htm := List.mem_of_getElem? ht
          have hj : j < ts.length := (List.getElem?_eq_some_iff.mp ht).1
          walk_at "my_rd"
          refine q_lstK (Nat.le_of_ble_eq_true rfl) fun M1 nM1 => ?_
          walk_at "my_rd"
          refine ⟨p, l, 5, rfl, pot6.new nM1, by omega, by omega, fun a1 H7 x0 x1 pot7 kp7 => ?_⟩
          obtain ⟨am, ham1, hmam⟩ := menuI (ss := amounts) x0 (by show a1 < 5; omega)
          have kp17 : Kp p H6 H7 := Kp.trans (Same.kp (Same.up (Same.refl _) nM1)) kp7
          have kp07 : Kp p H H7 := Kp.trans kp6 kp17
          walk_at "my_rd"
          refine q_ixLt (Kp.get kp7 upd_same (pot6.nep nM1)) ham1 ?_
          walk_at "my_rd"
          refine q_tupK (Nat.le_of_ble_eq_true rfl) fun U nU => ?_
          walk_at "my_rd"
          have hBL7 : H7 BL = some (.lst bv) := Kp.get kp17 hBL6 nBLp
          have hTL7 : H7 TL = some (.lst tv) := Kp.get kp17 hTL6 nTLp
          have hAC7 := Kp.get kp17 hAC6 nACp
          have hU0 := Kp.fresh kp07 hpo nU (pot7.nep nU)
          have hbnd : i * ts.length ≤ 9 := by
            have h1 : ts.length ≤ 3 := by omega
            have := Nat.mul_le_mul (show i ≤ 3 by omega) h1
            omega
          refine q_append (upd_new nU hBL7) (by rw [hB6.len]; exact small1000 (by omega)) ?_
          walk_at "my_rd"
          have hB7 : RowsAt BalR.v (upd H7 U (.tup [.str ac, .str t.name, .int am])) (bv ++ [.ref U]) (bs ++ [⟨ac, t.name, am⟩]) := ((hB6.pot pot6 kp17).new nU).snoc upd_same
          refine ⟨bv ++ [.ref U], bs ++ [⟨ac, t.name, am⟩], _, rfl, upd_same, hB7.updL (upd_new nU hBL7), by rw [List.length_append]; show bs.length + 1 ≤ _; omega, ?_, ?_, ?_, upd_other nBLAC.symm (upd_new nU hAC7), upd_other nTLBL (upd_new nU hTL7), ((hR6.pot pot6 kp17).new nU).updL (upd_new nU hBL7), (pot7.new nU).upd nBLp nBLl, Kp.new (Kp.new kp07 hU0) hBL0⟩
          · intro b hb
            rcases List.mem_append.mp hb with h | h
            · exact hbok b h
            · rw [List.mem_singleton.mp h]
              exact ⟨(accNames_ok _ hacm).1, (accNames_ok _ hacm).2, (hok t htm).n, (hok t htm).nl, List.mem_map.mpr ⟨t, htm, rfl⟩, (amounts_ok _ hmam).1⟩
          · intro b hb
            rcases List.mem_append.mp hb with h | h
            · exact hba b h
            · rw [List.mem_singleton.mp h]; exact hacm
          · intro b hb
            rcases List.mem_append.mp hb with h | h
            · exact hbm b h
            · rw [List.mem_singleton.mp h]; exact (amounts_ok _ hmam).2
        · rintro σ H6 ⟨bv, bs, tkv, rfl, hBL6, hB6, hbl, hbok, hba, hbm, hAC6, hTL6, hR6, pot6, kp6⟩
          walk_at "my_rd"
          refine ⟨bv, bs, _, _, rfl, hBL6, hB6, ?_, hbok, hba, hbm, hAC6, hTL6, hR6, pot6, kp6⟩
          rw [hR5.len] at hbl
          rw [Nat.succ_mul]
          exact hbl
      · rintro σ H5 ⟨bv, bs, av, tkv, rfl, hBL5, hB5, hbl, hbok, hba, hbm, hAC5, hTL5, hR5, pot5, kp5⟩
        walk_at "my_rd"
        refine ⟨p, l, 5, rfl, pot5, by omega, by omega, fun g gv gs H6 ng hg6 hP6 hD _ pot6 kp6 => ?_⟩
        have kp06 := Kp.trans kp5 kp6
        have hBL6 : H6 BL = some (.lst bv) := Kp.get kp6 hBL5 nBLp
        have hTL6 : H6 TL = some (.lst tv) := Kp.get kp6 hTL5 nTLp
        have hB6 := hB5.pot pot5 kp6
        have hR6 := hR5.pot pot5 kp6
        obtain ⟨g0, hg0⟩ : ∃ g0, gs[0]? = some g0 := by
          cases gs with
          | nil => exact absurd rfl hD.ne
          | cons a _ => exact ⟨a, rfl⟩
        obtain ⟨t0, ht0⟩ : ∃ t0, ts[0]? = some t0 := by
          cases ts with
          | nil => simp at hlts
          | cons a _ => exact ⟨a, rfl⟩
        obtain ⟨ga, hga, hgt⟩ := hP6.at_ 0 g0 hg0
        obtain ⟨ta, hta, htt⟩ := hR6.at_ 0 t0 ht0
        have htt : H6 ta = some (.tup [.str t0.name, .str t0.home, .int t0.scale, .int t0.limit, .int t0.large]) := htt
        have hgm := List.mem_of_getElem? hg0
        have htm := List.mem_of_getElem? ht0
        walk_at "my_rd"
        refine q_ixTt hg6 (at_int (n := 0) rfl hga) ?_
        walk_at "my_rd"
        refine q_ixLt hTL6 (at_int (n := 0) rfl hta) ?_
        walk_at "my_rd"
        refine q_tupK (Nat.le_of_ble_eq_true rfl) fun U nU => ?_
        walk_at "my_rd"
        have hU0 := Kp.fresh kp06 hpo nU (pot6.nep nU)
        have hbnd : bs.length ≤ 9 := by
          have h1 : ts.length ≤ 3 := by omega
          have := Nat.mul_le_mul (show accNames.length ≤ 3 from Nat.le_refl _) h1
          rw [List.length_map] at hbl
          omega
        refine q_append (upd_new nU hBL6) (by rw [hB6.len]; exact small1000 (by omega)) ?_
        walk_at "my_rd"
        generalize hH7 : upd (upd H6 U _) BL _ = H7
        have hB7 : RowsAt BalR.v H7 (bv ++ [.ref U]) (bs ++ [⟨g0.1, t0.name, 60⟩]) := by
          rw [← hH7]
          exact ((hB6.new nU).snoc (r := ⟨g0.1, t0.name, 60⟩) upd_same).updL (upd_new nU hBL6)
        have hBL7 : H7 BL = some (.lst (bv ++ [.ref U])) := by rw [← hH7]; exact upd_same
        have hTL7 : H7 TL = some (.lst tv) := by rw [← hH7]; exact upd_other nTLBL (upd_new nU hTL6)
        have hR7 : RowsAt TokR.v H7 tv ts := by rw [← hH7]; exact (hR6.new nU).updL (upd_new nU hBL6)
        have hg7 : H7 g = some (.tup gv) := by rw [← hH7]; exact upd_other (ne_of hg6 hBL6 (by intro z; cases z)) (upd_new nU hg6)
        have hP7 : PairsAt H7 gv gs := by rw [← hH7]; exact (hP6.new nU).updL (upd_new nU hBL6)
        have pot7 : PotAt H7 p l := by rw [← hH7]; exact (pot6.new nU).upd nBLp nBLl
        have kp7 : Kp p H H7 := by rw [← hH7]; exact Kp.new (Kp.new kp06 hU0) hBL0
        clear hH7
        refine q_disp fun d nd => ?_
        have ndp : d ≠ p := pot7.nep nd
        have hd0 := Kp.fresh kp7 hpo nd ndp
        generalize hH8 : upd H7 d (.dK []) = H8
        have hd8 : H8 d = some (.dK []) := by rw [← hH8]; exact upd_same
        have sm8 : Same H7 H8 := by rw [← hH8]; exact Same.new (Same.refl _) nd
        have pot8 := pot7.same sm8
        have kp8 : Kp p H H8 := Kp.trans kp7 (Same.kp sm8)
        clear hH8
        walk_at "my_rd"
        refine ⟨p, l, 3, rfl, pot8, by omega, by omega, fun de H9 e0 e1 pot9 kp9 => ?_⟩
        walk_at "my_rd"
        refine ⟨p, l, 4, rfl, pot9, by omega, by omega, fun wi H10 e2 e3 pot10 kp10 => ?_⟩
        walk_at "my_rd"
        refine ⟨p, l, 4, rfl, pot10, by omega, by omega, fun dy H11 e4 e5 pot11 kp11 => ?_⟩
        walk_at "my_rd"
        refine ⟨p, l, 3, rfl, pot11, by omega, by omega, fun bu H12 e6 e7 pot12 kp12 => ?_⟩
        walk_at "my_rd"
        have kp812 : Kp p H8 H12 := Kp.trans kp9 (Kp.trans kp10 (Kp.trans kp11 kp12))
        have hd12 : H12 d = some (.dK []) := Kp.get kp812 hd8 ndp
        have nTLd : TL ≠ d := ne_of_none hTL7 nd
        have nBLd : BL ≠ d := ne_of_none hBL7 nd
        have ngp : g ≠ p := by
          obtain ⟨_, _, _, _, q1, _⟩ := pot7
          exact ne_of hg7 q1 (by intro z; cases z)
        refine q_dispK (kvs := partKvs TL BL g ⟨ts, bs ++ [⟨g0.1, t0.name, 60⟩], 1 + de, 1 + wi, dy, 1 + bu⟩) hd12 rfl (by show 7 ≤ 15; decide) (part_nd _ _ _ _) ?_
        walk_at "my_rd"
        have tupd : ∀ b ys, H7 b = some (HO.tup ys) → upd H12 d (.dK (partKvs TL BL g ⟨ts, bs ++ [⟨g0.1, t0.name, 60⟩], 1 + de, 1 + wi, dy, 1 + bu⟩)) b = some (.tup ys) := fun b ys q => upd_other (ne_of_none q nd) (kp812.tup pot8 (sm8 _ _ q))
        refine k d ⟨ts, bs ++ [⟨g0.1, t0.name, 60⟩], 1 + de, 1 + wi, dy, 1 + bu⟩ gs TL BL g tv (bv ++ [.ref U]) gv _ hd0 nTL hBL0
          ⟨upd_same, upd_other nTLd (Kp.get kp812 (sm8 _ _ hTL7) nTLp), hR7.mono tupd, upd_other nBLd (Kp.get kp812 (sm8 _ _ hBL7) nBLp), hB7.mono tupd, tupd _ _ hg7, hP7.mono tupd⟩ ?_
          (pot12.upd ndp (pot7.nel nd)) (Kp.new (Kp.trans kp8 kp812) hd0)
        obtain ⟨ga1, ga2, ga3⟩ := gnames_ok _ (hD.nms g0 hgm)
        refine ⟨⟨hok, ?_, by show ts.length ≤ 1000; omega, ?_, by show (bs ++ [_]).length ≤ 1000; rw [List.length_append]; show bs.length + 1 ≤ 1000; omega, by show 1 ≤ 1 + de; omega, by show 1 ≤ 1 + wi; omega, e4, by show 1 ≤ 1 + bu; omega, by show 1 + bu ≤ 8; omega⟩, ?_, ?_, hho, hsc, by show ts.length ≤ 3; omega, hD, ?_, ?_, by show (bs ++ [_]).length ≤ 10; rw [List.length_append]; show bs.length + 1 ≤ 10; omega, by show 1 + de ≤ 3; omega, by show 1 + wi ≤ 4; omega, by show dy ≤ 3; omega, by show 1 + bu ≤ 3; omega⟩
        · show (ts.map TokR.name).Nodup
          rw [hnm2]
          exact (List.take_sublist _ _).nodup tokNames_nd
        · intro b hb
          rcases List.mem_append.mp hb with h | h
          · exact hbok b h
          · rw [List.mem_singleton.mp h]
            exact ⟨ga1, ga2, (hok t0 htm).n, (hok t0 htm).nl, List.mem_map.mpr ⟨t0, htm, rfl⟩, by show (0 : Int) ≤ 60; omega⟩
        · show ts ≠ []
          rintro rfl
          simp at hlts
        · intro t ht
          have : t.name ∈ ts.map TokR.name := List.mem_map.mpr ⟨t, ht, rfl⟩
          rw [hnm2] at this
          exact List.mem_of_mem_take this
        · intro b hb
          rcases List.mem_append.mp hb with h | h
          · exact .inl (hba b h)
          · rw [List.mem_singleton.mp h]; exact .inr (by rw [hg0]; rfl)
        · intro b hb
          rcases List.mem_append.mp hb with h | h
          · exact hbm b h
          · rw [List.mem_singleton.mp h]; show (60 : Int) ≤ 1000000; omega
end

local macro_rules | `(tactic| walk_at "my_rd") => `(tactic| (repeat first
  | with_reducible refine q_tCons ?_
  | ((with_reducible apply q_var); (focus (exact rfl)))
  | with_reducible refine q_c ?_
  | ((with_reducible apply q_nxE); (focus (with_reducible exact rfl)))
  | with_reducible refine q_bK ?_
  | with_reducible refine q_call ?_
  | with_reducible refine q_callK ?_
  | with_reducible refine q_tNil ?_
  | with_reducible refine q_cb ?_
  | with_reducible refine q_seq ?_
  | with_reducible refine q_asg ?_
  | with_reducible refine q_gName ?_
  | with_reducible refine q_op ?_
  | with_reducible refine q_test ?_
  | with_reducible refine q_tB ?_
  | with_reducible refine q_ifS ?_
  | with_reducible refine q_ret ?_
  | ((with_reducible apply q_rtE); (focus (with_reducible exact rfl)))
  | with_reducible refine q_next ?_
  | with_reducible refine q_ifF ?_
  | with_reducible refine q_ifT ?_
  | with_reducible refine q_drop ?_
  | with_reducible refine q_and ?_
  | with_reducible refine q_or ?_
  | with_reducible refine q_andT ?_
  | with_reducible refine q_andF ?_
  | with_reducible refine q_orF ?_
  | with_reducible refine q_orT ?_
  | with_reducible refine q_andV ?_
  | with_reducible refine q_andVT ?_
  | with_reducible refine q_andVF ?_
  | with_reducible refine q_orV ?_
  | with_reducible refine q_gCons ?_
  | with_reducible refine q_gNil ?_
  | with_reducible refine q_tup ?_
  | with_reducible refine q_lst ?_
  | with_reducible refine q_not ?_
  | with_reducible refine q_notKT ?_
  | with_reducible refine q_notKF ?_
  | with_reducible refine q_I0 ?_
  | with_reducible refine q_eqI ?_
  | with_reducible refine q_neI ?_
  | ((with_reducible refine q_I ?_ ?_); first | decide | omega | exact ⟨by omega, by omega⟩ | exact ⟨by decide, by decide⟩ | exact .inl ⟨by omega, by omega⟩ | exact .inr ⟨by omega, by omega⟩ | exact .inr ⟨by decide, by decide⟩)
  | with_reducible refine q_eqS ?_
  | with_reducible refine q_neS ?_
  | with_reducible refine q_brk ?_
  | with_reducible refine q_ct ?_
  | ((with_reducible apply q_bkE); (focus (with_reducible exact rfl)))
  | ((with_reducible apply q_cnE); (focus (with_reducible exact rfl)))
  | with_reducible refine q_retN ?_
  | with_reducible refine q_gSub ?_
  | with_reducible refine q_for ?_
  | with_reducible refine q_iList ?_
  | with_reducible refine q_iTup ?_
  | with_reducible refine q_iRng1 ?_
  | with_reducible refine q_notK ?_
  | with_reducible refine q_orVT ?_
  | with_reducible refine q_orVF ?_
  | with_reducible refine q_notV ?_
  | with_reducible refine q_notVK ?_
  | with_reducible refine q_ifE ?_
  | with_reducible refine q_ifET ?_
  | with_reducible refine q_ifEF ?_
  | with_reducible refine q_yes ?_
  | with_reducible refine q_un ?_
  | with_reducible refine q_rU ?_
  | with_reducible refine q_abs ?_
  | with_reducible refine q_int1 ?_
  | with_reducible refine q_bm ?_
  | with_reducible refine q_bm0 ?_
  | with_reducible refine q_lc ?_
  | with_reducible refine q_keepT ?_
  | with_reducible refine q_keepF ?_
  | ((with_reducible apply q_aug); (focus (exact rfl)))
  | with_reducible refine q_ipI ?_
  | with_reducible refine q_chain ?_
  | with_reducible refine q_pairC ?_
  | with_reducible refine q_pairsK ?_
  | with_reducible refine q_pairN ?_
  | with_reducible refine q_fld ?_
  | with_reducible refine q_sFld ?_
  | with_reducible refine q_meth ?_
  | with_reducible refine q_makeK ?_
  | with_reducible refine q_isBl ?_
  | with_reducible refine q_notBl ?_
  | with_reducible refine q_sl ?_
  | with_reducible refine q_noPart ?_
  | with_reducible refine q_part ?_
  | with_reducible refine q_partK ?_
  | ((with_reducible apply q_mulStr); (focus (decide +kernel)))
  | with_reducible refine q_chT ?_
  | with_reducible refine q_chF ?_
  | with_reducible refine q_ord ?_
  | with_reducible refine q_iStr0 ?_
  | with_reducible refine q_iStr ?_
  | with_reducible refine q_tDIn ?_
  | with_reducible refine q_tDNotIn ?_
  | with_reducible refine q_tDGet ?_
  | with_reducible refine q_tDGet2 ?_
  | with_reducible refine q_tDGet1 ?_
  | with_reducible refine q_tDSetd ?_
  | ((with_reducible apply q_dG2a); (focus ((repeat first | (with_reducible exact upd_same) | (with_reducible assumption) | (with_reducible apply upd_new (by assumption)) | (with_reducible apply upd_other (by first | assumption | exact Ne.symm (by assumption))) | (with_reducible refine' Kp.get (by assumption) ?_ (by first | assumption | exact Ne.symm (by assumption))) | (with_reducible apply Same.get (by assumption))); done)))
  | ((with_reducible apply q_dSda); (focus ((repeat first | (with_reducible exact upd_same) | (with_reducible assumption) | (with_reducible apply upd_new (by assumption)) | (with_reducible apply upd_other (by first | assumption | exact Ne.symm (by assumption))) | (with_reducible refine' Kp.get (by assumption) ?_ (by first | assumption | exact Ne.symm (by assumption))) | (with_reducible apply Same.get (by assumption))); done)))
  | with_reducible refine q_sDPut ?_
  | ((with_reducible apply q_dInS); (focus ((repeat first | (with_reducible exact upd_same) | (with_reducible assumption) | (with_reducible apply upd_new (by assumption)) | (with_reducible apply upd_other (by first | assumption | exact Ne.symm (by assumption))) | (with_reducible refine' Kp.get (by assumption) ?_ (by first | assumption | exact Ne.symm (by assumption))) | (with_reducible apply Same.get (by assumption))); done)))
  | ((with_reducible apply q_dNInS); (focus ((repeat first | (with_reducible exact upd_same) | (with_reducible assumption) | (with_reducible apply upd_new (by assumption)) | (with_reducible apply upd_other (by first | assumption | exact Ne.symm (by assumption))) | (with_reducible refine' Kp.get (by assumption) ?_ (by first | assumption | exact Ne.symm (by assumption))) | (with_reducible apply Same.get (by assumption))); done)))
  | ((with_reducible apply q_dInI); (focus ((repeat first | (with_reducible exact upd_same) | (with_reducible assumption) | (with_reducible apply upd_new (by assumption)) | (with_reducible apply upd_other (by first | assumption | exact Ne.symm (by assumption))) | (with_reducible refine' Kp.get (by assumption) ?_ (by first | assumption | exact Ne.symm (by assumption))) | (with_reducible apply Same.get (by assumption))); done)))
  | ((with_reducible apply q_dNInI); (focus ((repeat first | (with_reducible exact upd_same) | (with_reducible assumption) | (with_reducible apply upd_new (by assumption)) | (with_reducible apply upd_other (by first | assumption | exact Ne.symm (by assumption))) | (with_reducible refine' Kp.get (by assumption) ?_ (by first | assumption | exact Ne.symm (by assumption))) | (with_reducible apply Same.get (by assumption))); done)))
  | ((with_reducible apply q_bmL); (focus ((repeat first | (with_reducible exact upd_same) | (with_reducible assumption) | (with_reducible apply upd_new (by assumption)) | (with_reducible apply upd_other (by first | assumption | exact Ne.symm (by assumption))) | (with_reducible refine' Kp.get (by assumption) ?_ (by first | assumption | exact Ne.symm (by assumption))) | (with_reducible apply Same.get (by assumption))); done)))
  | ((with_reducible apply q_bmL0); (focus ((repeat first | (with_reducible exact upd_same) | (with_reducible assumption) | (with_reducible apply upd_new (by assumption)) | (with_reducible apply upd_other (by first | assumption | exact Ne.symm (by assumption))) | (with_reducible refine' Kp.get (by assumption) ?_ (by first | assumption | exact Ne.symm (by assumption))) | (with_reducible apply Same.get (by assumption))); done)))
  | ((with_reducible apply q_ixLt); (focus ((repeat first | (with_reducible exact upd_same) | (with_reducible assumption) | (with_reducible apply upd_new (by assumption)) | (with_reducible apply upd_other (by first | assumption | exact Ne.symm (by assumption))) | (with_reducible refine' Kp.get (by assumption) ?_ (by first | assumption | exact Ne.symm (by assumption))) | (with_reducible apply Same.get (by assumption))); done)); (focus (exact rfl)))
  | ((with_reducible apply q_ixTt); (focus ((repeat first | (with_reducible exact upd_same) | (with_reducible assumption) | (with_reducible apply upd_new (by assumption)) | (with_reducible apply upd_other (by first | assumption | exact Ne.symm (by assumption))) | (with_reducible refine' Kp.get (by assumption) ?_ (by first | assumption | exact Ne.symm (by assumption))) | (with_reducible apply Same.get (by assumption))); done)); (focus (exact rfl)))
  | ((with_reducible apply q_lenLt); (focus ((repeat first | (with_reducible exact upd_same) | (with_reducible assumption) | (with_reducible apply upd_new (by assumption)) | (with_reducible apply upd_other (by first | assumption | exact Ne.symm (by assumption))) | (with_reducible refine' Kp.get (by assumption) ?_ (by first | assumption | exact Ne.symm (by assumption))) | (with_reducible apply Same.get (by assumption))); done)))
  | ((with_reducible apply q_lenTt); (focus ((repeat first | (with_reducible exact upd_same) | (with_reducible assumption) | (with_reducible apply upd_new (by assumption)) | (with_reducible apply upd_other (by first | assumption | exact Ne.symm (by assumption))) | (with_reducible refine' Kp.get (by assumption) ?_ (by first | assumption | exact Ne.symm (by assumption))) | (with_reducible apply Same.get (by assumption))); done)))
  | ((with_reducible apply q_append); (focus ((repeat first | (with_reducible exact upd_same) | (with_reducible assumption) | (with_reducible apply upd_new (by assumption)) | (with_reducible apply upd_other (by first | assumption | exact Ne.symm (by assumption))) | (with_reducible refine' Kp.get (by assumption) ?_ (by first | assumption | exact Ne.symm (by assumption))) | (with_reducible apply Same.get (by assumption))); done)); (focus ((first | (exact Nat.lt_of_ble_eq_true rfl) | (simp only [List.length_append, List.length_cons, List.length_nil, List.length_map]; exact small1000 (by omega))))))
  | ((with_reducible apply q_setL); (focus ((repeat first | (with_reducible exact upd_same) | (with_reducible assumption) | (with_reducible apply upd_new (by assumption)) | (with_reducible apply upd_other (by first | assumption | exact Ne.symm (by assumption))) | (with_reducible refine' Kp.get (by assumption) ?_ (by first | assumption | exact Ne.symm (by assumption))) | (with_reducible apply Same.get (by assumption))); done)); (focus (exact rfl)))
  | with_reducible refine q_ifNT ?_
  | with_reducible refine q_ifNF ?_
  | with_reducible refine q_andNT ?_
  | with_reducible refine q_andNF ?_
  | with_reducible refine q_orNT ?_
  | with_reducible refine q_orNF ?_
  | with_reducible refine q_bKNT ?_
  | with_reducible refine q_bKNF ?_
  | with_reducible refine q_tNGet ?_
  | with_reducible refine q_tNIn ?_
  | with_reducible refine q_sNPut ?_
  | with_reducible refine q_sFldAug ?_
  | with_reducible refine q_sDAug ?_
  | with_reducible refine q_sDDel ?_
  | with_reducible refine q_forX ?_
  | with_reducible refine q_tMake ?_
  | ((with_reducible apply q_dG1a); (focus ((repeat first | (with_reducible exact upd_same) | (with_reducible assumption) | (with_reducible apply upd_new (by assumption)) | (with_reducible apply upd_other (by first | assumption | exact Ne.symm (by assumption))) | (with_reducible refine' Kp.get (by assumption) ?_ (by first | assumption | exact Ne.symm (by assumption))) | (with_reducible apply Same.get (by assumption))); done)))))
/-! the Config of the law's configuration -/
def prd (g : Str × Int) : PyData := .tuple [.str g.1, .int g.2]
theorem PairsAt.tail {H : Hp} {x : V} {xs : List V} {g : Str × Int} {gs : Gs} (h : PairsAt H (x :: xs) (g :: gs)) : PairsAt H xs gs :=
  ⟨by have := h.len; simpa using this, fun i g' hg => by have := h.at_ (i + 1) g' (by simpa using hg); simpa using this⟩
theorem PairsAt.tall {K : PySem.W.Frag} {H : Hp} : ∀ {xs : List V} {gs : Gs}, PairsAt H xs gs → TupAll K H xs (gs.map prd)
  | [], [], _ => .nil
  | [], g :: gs, h => by have := h.len; simp at this
  | x :: xs, [], h => by have := h.len; simp at this
  | x :: xs, g :: gs, h => by
    obtain ⟨a, e, ha⟩ := h.at_ 0 g rfl
    have e : x = .ref a := Option.some.inj e
    subst e
    exact .cons (.tup ha (.cons (.str _) (.cons (.int _) .nil))) h.tail.tall
theorem Drawn.set {gs : Gs} (h : Drawn gs) : setD (.tuple (gs.map prd)) = true := by
  have h1 : (gs.map prd).isEmpty = false := by
    cases gs with
    | nil => exact absurd rfl h.ne
    | cons _ _ => rfl
  have h2 : (gs.map prd).all pairD = true := by
    rw [List.all_eq_true]
    intro d hd
    obtain ⟨g, hg, rfl⟩ := List.mem_map.mp hd
    show (accD (.str g.1) && leastD 1 (.int g.2)) = true
    rw [(gnames_ok _ (h.nms g hg)).1, Bool.true_and]
    exact decide_eq_true (h.pos g hg)
  have h3 : ((gs.map prd).map nameS) = gs.map (·.1) := by
    rw [List.map_map]
    rfl
  show (!(gs.map prd).isEmpty && ((gs.map prd).all pairD && decide (((gs.map prd).map nameS).Nodup))) = true
  rw [h1, h2, h3, decide_eq_true h.nd]
  rfl
theorem fineS_pairs {gs : Gs} (h : Drawn gs) : FineS (.tuple (gs.map prd)) := by
  intro ds e
  injection e with e
  subst e
  refine ⟨by rw [List.length_map]; have := h.few; omega, fun x hx => ?_⟩
  obtain ⟨g, hg, rfl⟩ := List.mem_map.mp hx
  intro a b e
  injection e with e
  injection e with e1 e
  injection e with e2 e
  subst e1 e2
  exact ⟨by show g.1.length ≤ 100000; have := (gnames_ok _ (h.nms g hg)).2.1; omega, trivial⟩
def sp_Lmade (C : Addr) : Sp := fun vs H Q _ => ∃ (d : Addr) (c : Parts) (gs : Gs) (tl bl g : Addr) (tv bv gv : List V), vs = [.ref d] ∧ PartsAt H d c gs tl bl g tv bv gv ∧ CfgOk c gs ∧
  ∀ (x : Addr) (H' : Hp), H x = none → CfgAt C c g H' x → Same H H' → Q (.ref x) H'
section
variable {P : Program} {w : World} {K : PySem.W.Frag} {mg : Str → Option Value} {base : Heap}
theorem ok_L_made (T : Txt K mg) : FnOk P w K mg base CX0 8 T.f_L_made T.d_L_made ["parts"] (sp_Lmade T.C_Config) := by
  refine T.F_L_made.ok sc_L_made (fun vs H Q E h => ?_) (fun cdv A outer s H vs Q E hr h => ?_)
  · obtain ⟨d, c, gs, tl, bl, g, tv, bv, gv, rfl, _⟩ := h; rfl
  · obtain ⟨d, c, gs, tl, bl, g, tv, bv, gv, rfl, hp, hc, k⟩ := h
    have hu := hu_of hr
    refine ⟨_, (pss_one (ps_ret (pe_makeK0 T.mk_Config (ok_Config_init T) (hr.mono (by decide)) (by rfl) T.g_Config T.kb7_Config_init pass0 (pk_cons (pe_dget hu (pv 0) pe_str (fun _ _ => rfl)) (pk_cons (pe_dget hu (pv 0) pe_str (fun _ _ => rfl)) (pk_cons (pe_dget hu (pv 0) pe_str (fun _ _ => rfl)) (pk_cons (pe_dget hu (pv 0) pe_str (fun _ _ => rfl)) (pk_cons (pe_dget hu (pv 0) pe_str (fun _ _ => rfl)) (pk_cons (pe_dget hu (pv 0) pe_str (fun _ _ => rfl)) (pk_cons (pe_dget hu (pv 0) pe_str (fun _ _ => rfl)) pk_nil)))))))))), ?_⟩
    (dsimp only [cxOf, Cx.nox, Cx.wish, L2.start, List.map, List.length, List.replicate, List.cons_append, List.nil_append, List.append_eq, Nat.reduceSub, Nat.reduceAdd])
    walk_at "my_rd"
    refine q_dGetS hp.dict (by (repeat first | rfl | rw [valV_cons, if_pos rfl] | rw [valV_cons, if_neg (by decide +kernel)])) ?_
    walk_at "my_rd"
    refine q_dGetS hp.dict (by (repeat first | rfl | rw [valV_cons, if_pos rfl] | rw [valV_cons, if_neg (by decide +kernel)])) ?_
    walk_at "my_rd"
    refine q_dGetS hp.dict (by (repeat first | rfl | rw [valV_cons, if_pos rfl] | rw [valV_cons, if_neg (by decide +kernel)])) ?_
    walk_at "my_rd"
    refine q_dGetS hp.dict (by (repeat first | rfl | rw [valV_cons, if_pos rfl] | rw [valV_cons, if_neg (by decide +kernel)])) ?_
    walk_at "my_rd"
    refine q_dGetS hp.dict (by (repeat first | rfl | rw [valV_cons, if_pos rfl] | rw [valV_cons, if_neg (by decide +kernel)])) ?_
    walk_at "my_rd"
    refine q_dGetS hp.dict (by (repeat first | rfl | rw [valV_cons, if_pos rfl] | rw [valV_cons, if_neg (by decide +kernel)])) ?_
    walk_at "my_rd"
    refine q_dGetS hp.dict (by (repeat first | rfl | rw [valV_cons, if_pos rfl] | rw [valV_cons, if_neg (by decide +kernel)])) ?_
    walk_at "my_rd"
    refine ⟨rfl, rfl, fun x dx nx ndx hdx => ?_⟩
    have sm : Same H (upd (upd H dx (.own x)) x (.ins T.C_Config dx [])) := Same.up (Same.up (Same.refl _) ndx) (upd_free hdx.symm nx)
    have hp2 := hp.same sm
    refine ⟨x, dx, tl, bl, g, tv, bv, .tuple (gs.map prd), c, rfl, upd_same, hp2.tl, hp2.bl, hp2.tr, hp2.br, .tup hp2.gt hp2.gp.tall, hc.gd.set, fineS_pairs hc.gd, hc.ok, fun H' hC kp => ?_⟩
    refine ⟨rfl, k x H' nx hC ?_⟩
    intro b o hb
    exact kp b o (sm b o hb) (ne_of_none hb nx)
end

local macro_rules | `(tactic| walk_at "my_rd") => `(tactic| (repeat first
  | with_reducible refine q_tCons ?_
  | ((with_reducible apply q_var); (focus (exact rfl)))
  | with_reducible refine q_c ?_
  | ((with_reducible apply q_nxE); (focus (with_reducible exact rfl)))
  | with_reducible refine q_bK ?_
  | with_reducible refine q_call ?_
  | with_reducible refine q_callK ?_
  | with_reducible refine q_tNil ?_
  | with_reducible refine q_cb ?_
  | with_reducible refine q_seq ?_
  | with_reducible refine q_asg ?_
  | with_reducible refine q_gName ?_
  | with_reducible refine q_op ?_
  | with_reducible refine q_test ?_
  | with_reducible refine q_tB ?_
  | with_reducible refine q_ifS ?_
  | with_reducible refine q_ret ?_
  | ((with_reducible apply q_rtE); (focus (with_reducible exact rfl)))
  | with_reducible refine q_next ?_
  | with_reducible refine q_ifF ?_
  | with_reducible refine q_ifT ?_
  | with_reducible refine q_drop ?_
  | with_reducible refine q_and ?_
  | with_reducible refine q_or ?_
  | with_reducible refine q_andT ?_
  | with_reducible refine q_andF ?_
  | with_reducible refine q_orF ?_
  | with_reducible refine q_orT ?_
  | with_reducible refine q_andV ?_
  | with_reducible refine q_andVT ?_
  | with_reducible refine q_andVF ?_
  | with_reducible refine q_orV ?_
  | with_reducible refine q_gCons ?_
  | with_reducible refine q_gNil ?_
  | with_reducible refine q_tup ?_
  | with_reducible refine q_lst ?_
  | with_reducible refine q_not ?_
  | with_reducible refine q_notKT ?_
  | with_reducible refine q_notKF ?_
  | with_reducible refine q_I0 ?_
  | with_reducible refine q_eqI ?_
  | with_reducible refine q_neI ?_
  | ((with_reducible refine q_I ?_ ?_); first | decide | omega | exact ⟨by omega, by omega⟩ | exact ⟨by decide, by decide⟩ | exact .inl ⟨by omega, by omega⟩ | exact .inr ⟨by omega, by omega⟩ | exact .inr ⟨by decide, by decide⟩)
  | with_reducible refine q_eqS ?_
  | with_reducible refine q_neS ?_
  | with_reducible refine q_brk ?_
  | with_reducible refine q_ct ?_
  | ((with_reducible apply q_bkE); (focus (with_reducible exact rfl)))
  | ((with_reducible apply q_cnE); (focus (with_reducible exact rfl)))
  | with_reducible refine q_retN ?_
  | with_reducible refine q_gSub ?_
  | with_reducible refine q_for ?_
  | with_reducible refine q_iList ?_
  | with_reducible refine q_iTup ?_
  | with_reducible refine q_iRng1 ?_
  | with_reducible refine q_notK ?_
  | with_reducible refine q_orVT ?_
  | with_reducible refine q_orVF ?_
  | with_reducible refine q_notV ?_
  | with_reducible refine q_notVK ?_
  | with_reducible refine q_ifE ?_
  | with_reducible refine q_ifET ?_
  | with_reducible refine q_ifEF ?_
  | with_reducible refine q_yes ?_
  | with_reducible refine q_un ?_
  | with_reducible refine q_rU ?_
  | with_reducible refine q_abs ?_
  | with_reducible refine q_int1 ?_
  | with_reducible refine q_bm ?_
  | with_reducible refine q_bm0 ?_
  | with_reducible refine q_lc ?_
  | with_reducible refine q_keepT ?_
  | with_reducible refine q_keepF ?_
  | ((with_reducible apply q_aug); (focus (exact rfl)))
  | with_reducible refine q_ipI ?_
  | with_reducible refine q_chain ?_
  | with_reducible refine q_pairC ?_
  | with_reducible refine q_pairsK ?_
  | with_reducible refine q_pairN ?_
  | with_reducible refine q_fld ?_
  | with_reducible refine q_sFld ?_
  | with_reducible refine q_meth ?_
  | with_reducible refine q_makeK ?_
  | with_reducible refine q_isBl ?_
  | with_reducible refine q_notBl ?_
  | with_reducible refine q_sl ?_
  | with_reducible refine q_noPart ?_
  | with_reducible refine q_part ?_
  | with_reducible refine q_partK ?_
  | ((with_reducible apply q_mulStr); (focus (decide +kernel)))
  | with_reducible refine q_chT ?_
  | with_reducible refine q_chF ?_
  | with_reducible refine q_ord ?_
  | with_reducible refine q_iStr0 ?_
  | with_reducible refine q_iStr ?_
  | with_reducible refine q_tDIn ?_
  | with_reducible refine q_tDNotIn ?_
  | with_reducible refine q_tDGet ?_
  | with_reducible refine q_tDGet2 ?_
  | with_reducible refine q_tDGet1 ?_
  | with_reducible refine q_tDSetd ?_
  | ((with_reducible apply q_dG2a); (focus ((repeat first | (with_reducible exact upd_same) | (with_reducible assumption) | (with_reducible apply upd_new (by assumption)) | (with_reducible apply upd_other (by first | assumption | exact Ne.symm (by assumption))) | (with_reducible refine' Kp.get (by assumption) ?_ (by first | assumption | exact Ne.symm (by assumption))) | (with_reducible apply Same.get (by assumption))); done)))
  | ((with_reducible apply q_dSda); (focus ((repeat first | (with_reducible exact upd_same) | (with_reducible assumption) | (with_reducible apply upd_new (by assumption)) | (with_reducible apply upd_other (by first | assumption | exact Ne.symm (by assumption))) | (with_reducible refine' Kp.get (by assumption) ?_ (by first | assumption | exact Ne.symm (by assumption))) | (with_reducible apply Same.get (by assumption))); done)))
  | with_reducible refine q_sDPut ?_
  | ((with_reducible apply q_dInS); (focus ((repeat first | (with_reducible exact upd_same) | (with_reducible assumption) | (with_reducible apply upd_new (by assumption)) | (with_reducible apply upd_other (by first | assumption | exact Ne.symm (by assumption))) | (with_reducible refine' Kp.get (by assumption) ?_ (by first | assumption | exact Ne.symm (by assumption))) | (with_reducible apply Same.get (by assumption))); done)))
  | ((with_reducible apply q_dNInS); (focus ((repeat first | (with_reducible exact upd_same) | (with_reducible assumption) | (with_reducible apply upd_new (by assumption)) | (with_reducible apply upd_other (by first | assumption | exact Ne.symm (by assumption))) | (with_reducible refine' Kp.get (by assumption) ?_ (by first | assumption | exact Ne.symm (by assumption))) | (with_reducible apply Same.get (by assumption))); done)))
  | ((with_reducible apply q_dInI); (focus ((repeat first | (with_reducible exact upd_same) | (with_reducible assumption) | (with_reducible apply upd_new (by assumption)) | (with_reducible apply upd_other (by first | assumption | exact Ne.symm (by assumption))) | (with_reducible refine' Kp.get (by assumption) ?_ (by first | assumption | exact Ne.symm (by assumption))) | (with_reducible apply Same.get (by assumption))); done)))
  | ((with_reducible apply q_dNInI); (focus ((repeat first | (with_reducible exact upd_same) | (with_reducible assumption) | (with_reducible apply upd_new (by assumption)) | (with_reducible apply upd_other (by first | assumption | exact Ne.symm (by assumption))) | (with_reducible refine' Kp.get (by assumption) ?_ (by first | assumption | exact Ne.symm (by assumption))) | (with_reducible apply Same.get (by assumption))); done)))
  | ((with_reducible apply q_bmL); (focus ((repeat first | (with_reducible exact upd_same) | (with_reducible assumption) | (with_reducible apply upd_new (by assumption)) | (with_reducible apply upd_other (by first | assumption | exact Ne.symm (by assumption))) | (with_reducible refine' Kp.get (by assumption) ?_ (by first | assumption | exact Ne.symm (by assumption))) | (with_reducible apply Same.get (by assumption))); done)))
  | ((with_reducible apply q_bmL0); (focus ((repeat first | (with_reducible exact upd_same) | (with_reducible assumption) | (with_reducible apply upd_new (by assumption)) | (with_reducible apply upd_other (by first | assumption | exact Ne.symm (by assumption))) | (with_reducible refine' Kp.get (by assumption) ?_ (by first | assumption | exact Ne.symm (by assumption))) | (with_reducible apply Same.get (by assumption))); done)))
  | ((with_reducible apply q_ixLt); (focus ((repeat first | (with_reducible exact upd_same) | (with_reducible assumption) | (with_reducible apply upd_new (by assumption)) | (with_reducible apply upd_other (by first | assumption | exact Ne.symm (by assumption))) | (with_reducible refine' Kp.get (by assumption) ?_ (by first | assumption | exact Ne.symm (by assumption))) | (with_reducible apply Same.get (by assumption))); done)); (focus (exact rfl)))
  | ((with_reducible apply q_ixTt); (focus ((repeat first | (with_reducible exact upd_same) | (with_reducible assumption) | (with_reducible apply upd_new (by assumption)) | (with_reducible apply upd_other (by first | assumption | exact Ne.symm (by assumption))) | (with_reducible refine' Kp.get (by assumption) ?_ (by first | assumption | exact Ne.symm (by assumption))) | (with_reducible apply Same.get (by assumption))); done)); (focus (exact rfl)))
  | ((with_reducible apply q_lenLt); (focus ((repeat first | (with_reducible exact upd_same) | (with_reducible assumption) | (with_reducible apply upd_new (by assumption)) | (with_reducible apply upd_other (by first | assumption | exact Ne.symm (by assumption))) | (with_reducible refine' Kp.get (by assumption) ?_ (by first | assumption | exact Ne.symm (by assumption))) | (with_reducible apply Same.get (by assumption))); done)))
  | ((with_reducible apply q_lenTt); (focus ((repeat first | (with_reducible exact upd_same) | (with_reducible assumption) | (with_reducible apply upd_new (by assumption)) | (with_reducible apply upd_other (by first | assumption | exact Ne.symm (by assumption))) | (with_reducible refine' Kp.get (by assumption) ?_ (by first | assumption | exact Ne.symm (by assumption))) | (with_reducible apply Same.get (by assumption))); done)))
  | ((with_reducible apply q_append); (focus ((repeat first | (with_reducible exact upd_same) | (with_reducible assumption) | (with_reducible apply upd_new (by assumption)) | (with_reducible apply upd_other (by first | assumption | exact Ne.symm (by assumption))) | (with_reducible refine' Kp.get (by assumption) ?_ (by first | assumption | exact Ne.symm (by assumption))) | (with_reducible apply Same.get (by assumption))); done)); (focus ((first | (exact Nat.lt_of_ble_eq_true rfl) | (simp only [List.length_append, List.length_cons, List.length_nil, List.length_map]; exact small1000 (by omega))))))
  | ((with_reducible apply q_setL); (focus ((repeat first | (with_reducible exact upd_same) | (with_reducible assumption) | (with_reducible apply upd_new (by assumption)) | (with_reducible apply upd_other (by first | assumption | exact Ne.symm (by assumption))) | (with_reducible refine' Kp.get (by assumption) ?_ (by first | assumption | exact Ne.symm (by assumption))) | (with_reducible apply Same.get (by assumption))); done)); (focus (exact rfl)))
  | with_reducible refine q_ifNT ?_
  | with_reducible refine q_ifNF ?_
  | with_reducible refine q_andNT ?_
  | with_reducible refine q_andNF ?_
  | with_reducible refine q_orNT ?_
  | with_reducible refine q_orNF ?_
  | with_reducible refine q_bKNT ?_
  | with_reducible refine q_bKNF ?_
  | with_reducible refine q_tNGet ?_
  | with_reducible refine q_tNIn ?_
  | with_reducible refine q_sNPut ?_
  | with_reducible refine q_sFldAug ?_
  | with_reducible refine q_sDAug ?_
  | with_reducible refine q_sDDel ?_
  | with_reducible refine q_forX ?_
  | with_reducible refine q_tMake ?_
  | ((with_reducible apply q_dG1a); (focus ((repeat first | (with_reducible exact upd_same) | (with_reducible assumption) | (with_reducible apply upd_new (by assumption)) | (with_reducible apply upd_other (by first | assumption | exact Ne.symm (by assumption))) | (with_reducible refine' Kp.get (by assumption) ?_ (by first | assumption | exact Ne.symm (by assumption))) | (with_reducible apply Same.get (by assumption))); done)))))
/-! a table of rows: by token, then by name -/
abbrev Row := List (Str × Int)
abbrev Tab2 := List (Str × Row)
def rowK (r : Row) : List (Key × V) := r.map fun p => (Sum.inr p.1, .int p.2)
def putRow (r : Row) (x : Str) (i : Int) : Row := if (r.any fun p => decide (p.1 = x)) = true then r.map (fun p => if p.1 = x then (p.1, i) else p) else r ++ [(x, i)]
def getRow (r : Row) (x : Str) : Int := ((r.find? fun p => decide (p.1 = x)).map (·.2)).getD 0
def tabAt (tb : Tab2) (t : Str) : Option Row := (tb.find? fun p => decide (p.1 = t)).map (·.2)
def rowOf (tb : Tab2) (t : Str) : Row := (tabAt tb t).getD []
def setRow : Tab2 → Str → Row → Tab2
  | [], t, r => [(t, r)]
  | (t', r') :: tb, t, r => if t' = t then (t, r) :: tb else (t', r') :: setRow tb t r
def heldT (tb : Tab2) (t x : Str) : Int := getRow (rowOf tb t) x
def putT (tb : Tab2) (t x : Str) (i : Int) : Tab2 := setRow tb t (putRow (rowOf tb t) x (getRow (rowOf tb t) x + i))
theorem inr_dec {s t : Str} : decide ((Sum.inr s : Key) = Sum.inr t) = decide (s = t) := by
  by_cases h : s = t
  · rw [h, decide_eq_true rfl, decide_eq_true rfl]
  · rw [decide_eq_false h, decide_eq_false (fun e => h (Sum.inr.inj e))]
theorem rowK_val (r : Row) (x : Str) : valV (rowK r) (Sum.inr x) = ((r.find? fun p => decide (p.1 = x)).map (·.2)).map V.int := by
  induction r with
  | nil => rfl
  | cons p r ih =>
    show valV ((Sum.inr p.1, V.int p.2) :: rowK r) (Sum.inr x) = _
    rw [valV_cons]
    by_cases h : p.1 = x
    · rw [if_pos (by rw [h]), List.find?_cons_of_pos (by rw [decide_eq_true h])]
      rfl
    · rw [if_neg (fun e => h (Sum.inr.inj e)), List.find?_cons_of_neg (by rw [decide_eq_false h]; exact Bool.false_ne_true), ih]
theorem rowK_get (r : Row) (x : Str) : (valV (rowK r) (Sum.inr x)).getD (.int 0) = .int (getRow r x) := by
  rw [rowK_val]
  unfold getRow
  cases (r.find? fun p => decide (p.1 = x)).map (·.2) <;> rfl
theorem rowK_any (r : Row) (x : Str) : ((rowK r).any fun kv => decide (kv.1 = Sum.inr x)) = r.any fun p => decide (p.1 = x) := by
  unfold rowK
  rw [List.any_map]
  congr 1
  funext p
  exact inr_dec
theorem rowK_put (r : Row) (x : Str) (i : Int) : putK (rowK r) (Sum.inr x) (.int i) = rowK (putRow r x i) := by
  unfold putK putRow
  rw [rowK_any]
  split
  · unfold rowK
    rw [List.map_map, List.map_map]
    congr 1
    funext p
    show (if (Sum.inr p.1 : Key) = Sum.inr x then ((Sum.inr p.1 : Key), V.int i) else (Sum.inr p.1, V.int p.2)) = _
    by_cases h : p.1 = x
    · rw [if_pos (by rw [h])]; show _ = ((Sum.inr (if p.1 = x then (p.1, i) else p).1 : Key), V.int (if p.1 = x then (p.1, i) else p).2); rw [if_pos h]
    · rw [if_neg (fun e => h (Sum.inr.inj e))]; show _ = ((Sum.inr (if p.1 = x then (p.1, i) else p).1 : Key), V.int (if p.1 = x then (p.1, i) else p).2); rw [if_neg h]
  · show _ = rowK (r ++ [(x, i)])
    unfold rowK
    rw [List.map_append]
    rfl
inductive TRows (H : Hp) : Tab2 → List Addr → List (Key × V) → Prop
  | nil : TRows H [] [] []
  | cons {t : Str} {r : Row} {a : Addr} {tb : Tab2} {as : List Addr} {kvs : List (Key × V)} : H a = some (.dK (rowK r)) → a ∉ as → TRows H tb as kvs → TRows H ((t, r) :: tb) (a :: as) ((Sum.inr t, .ref a) :: kvs)
theorem TRows.mono {H H' : Hp} {tb : Tab2} {as : List Addr} {kvs : List (Key × V)} (h : TRows H tb as kvs) (e : ∀ b ∈ as, ∀ o, H b = some o → H' b = some o) : TRows H' tb as kvs := by
  induction h with
  | nil => exact .nil
  | cons h1 h2 _ ih => exact .cons (e _ List.mem_cons_self _ h1) h2 (ih fun b hb => e b (List.mem_cons_of_mem _ hb))
theorem TRows.len {H : Hp} {tb : Tab2} {as : List Addr} {kvs : List (Key × V)} (h : TRows H tb as kvs) : kvs.length = tb.length := by
  induction h with
  | nil => rfl
  | cons _ _ _ ih => exact congrArg (· + 1) ih
theorem TRows.val {H : Hp} {tb : Tab2} {as : List Addr} {kvs : List (Key × V)} (h : TRows H tb as kvs) (t : Str) : (tabAt tb t = none ∧ valV kvs (Sum.inr t) = none) ∨ ∃ r a, tabAt tb t = some r ∧ valV kvs (Sum.inr t) = some (.ref a) ∧ a ∈ as ∧ H a = some (.dK (rowK r)) := by
  induction h with
  | nil => exact .inl ⟨rfl, rfl⟩
  | @cons t' r a tb as kvs h1 h2 _ ih =>
    rw [valV_cons]
    unfold tabAt
    by_cases e : t' = t
    · rw [if_pos (by rw [e]), List.find?_cons_of_pos (by rw [decide_eq_true e])]
      exact .inr ⟨r, a, rfl, rfl, List.mem_cons_self, h1⟩
    · rw [if_neg (fun z => e (Sum.inr.inj z)), List.find?_cons_of_neg (by rw [decide_eq_false e]; exact Bool.false_ne_true)]
      rcases ih with h | ⟨r', a', q1, q2, q3, q4⟩
      · exact .inl h
      · exact .inr ⟨r', a', q1, q2, List.mem_cons_of_mem _ q3, q4⟩
theorem TRows.mem {H : Hp} {tb : Tab2} {as : List Addr} {kvs : List (Key × V)} (h : TRows H tb as kvs) {a : Addr} (ha : a ∈ as) : ∃ r, H a = some (.dK (rowK r)) := by
  induction h with
  | nil => cases ha
  | cons h1 _ _ ih =>
    rcases List.mem_cons.mp ha with rfl | h
    · exact ⟨_, h1⟩
    · exact ih h
theorem TRows.set {H H' : Hp} {tb : Tab2} {as : List Addr} {kvs : List (Key × V)} (h : TRows H tb as kvs) {t : Str} {b : Addr} {r' : Row} (hv : valV kvs (Sum.inr t) = some (.ref b)) (hb : H' b = some (.dK (rowK r'))) (hk : ∀ c ∈ as, c ≠ b → ∀ o, H c = some o → H' c = some o) : TRows H' (setRow tb t r') as kvs := by
  induction h with
  | nil => cases hv
  | @cons t' r a tb as kvs h1 h2 h3 ih =>
    rw [valV_cons] at hv
    by_cases e : t' = t
    · subst e
      rw [if_pos rfl] at hv
      have e2 : a = b := by injection hv with z; injection z
      subst e2
      show TRows H' (if t' = t' then _ else _) _ _
      rw [if_pos rfl]
      exact .cons hb h2 (h3.mono fun c hc o q => hk c (List.mem_cons_of_mem _ hc) (fun z => h2 (z ▸ hc)) o q)
    · rw [if_neg (fun z => e (Sum.inr.inj z))] at hv
      have hm : b ∈ as := by
        rcases h3.val t with ⟨_, q⟩ | ⟨_, c, _, q, m, _⟩
        · rw [q] at hv; cases hv
        · rw [q] at hv
          have e2 : c = b := by injection hv with z; injection z
          exact e2 ▸ m
      show TRows H' (if t' = t then _ else _) _ _
      rw [if_neg e]
      exact .cons (hk a List.mem_cons_self (fun z => h2 (z ▸ hm)) _ h1) h2 (ih hv fun c hc => hk c (List.mem_cons_of_mem _ hc))
theorem TRows.snoc {H : Hp} {tb : Tab2} {as : List Addr} {kvs : List (Key × V)} (h : TRows H tb as kvs) {t : Str} {b : Addr} {r : Row} (hv : valV kvs (Sum.inr t) = none) (hb : H b = some (.dK (rowK r))) (hn : b ∉ as) : TRows H (setRow tb t r) (as ++ [b]) (kvs ++ [(Sum.inr t, .ref b)]) := by
  induction h with
  | nil => exact .cons hb (by simp) .nil
  | @cons t' r' a tb as kvs h1 h2 h3 ih =>
    rw [valV_cons] at hv
    by_cases e : t' = t
    · rw [if_pos (by rw [e])] at hv; cases hv
    · rw [if_neg (fun z => e (Sum.inr.inj z))] at hv
      show TRows H (if t' = t then _ else _) _ _
      rw [if_neg e]
      refine .cons h1 ?_ (ih hv fun z => hn (List.mem_cons_of_mem _ z))
      intro z
      rcases List.mem_append.mp z with z | z
      · exact h2 z
      · exact hn (List.mem_singleton.mp z ▸ List.mem_cons_self)
structure TblAt (H : Hp) (a : Addr) (tb : Tab2) (as : List Addr) : Prop where
  ex : ∃ kvs, H a = some (.dK kvs) ∧ TRows H tb as kvs
  out : a ∉ as
theorem TblAt.mono {H H' : Hp} {a : Addr} {tb : Tab2} {as : List Addr} (h : TblAt H a tb as) (ea : ∀ o, H a = some o → H' a = some o) (e : ∀ b ∈ as, ∀ o, H b = some o → H' b = some o) : TblAt H' a tb as := by
  obtain ⟨kvs, h1, h2⟩ := h.ex
  exact ⟨⟨kvs, ea _ h1, h2.mono e⟩, h.out⟩
theorem TblAt.same {H H' : Hp} {a : Addr} {tb : Tab2} {as : List Addr} (h : TblAt H a tb as) (e : Same H H') : TblAt H' a tb as := h.mono (fun o q => e a o q) fun b _ o q => e b o q
def sp_held : Sp := fun vs H Q _ => ∃ (a : Addr) (t x : Str) (tb : Tab2) (as : List Addr), vs = [.ref a, .str t, .str x] ∧ TblAt H a tb as ∧ ∀ H', Same H H' → Q (.int (heldT tb t x)) H'
/-- all but these addresses stays -/
def Kps (as : List Addr) (H H' : Hp) : Prop := ∀ b o, H b = some o → b ∉ as → H' b = some o
def sp_put : Sp := fun vs H Q _ => ∃ (a : Addr) (t x : Str) (i : Int) (tb : Tab2) (as : List Addr), vs = [.ref a, .str t, .str x, .int i] ∧ TblAt H a tb as ∧ tb.length < 1000 ∧ (rowOf tb t).length < 1000 ∧
  ∀ (H' : Hp) (as' : List Addr), TblAt H' a (putT tb t x i) as' → (∀ b ∈ as', b ∈ as ∨ H b = none) → Kps (a :: as) H H' → Q .non H'
section
variable {P : Program} {w : World} {K : PySem.W.Frag} {mg : Str → Option Value} {base : Heap}
theorem ok_held (T : Txt K mg) : FnOk P w K mg base CX0 1 T.f_held T.d_held ["table", "token", "name"] sp_held := by
  refine T.F_held.ok sc_held (fun vs H Q E h => ?_) (fun cdv A outer s H vs Q E hr h => ?_)
  · obtain ⟨a, t, x, tb, as, rfl, _⟩ := h; rfl
  · obtain ⟨a, t, x, tb, as, rfl, hT, k⟩ := h
    obtain ⟨kvs, ha, hR⟩ := hT.ex
    have hu := hu_of hr
    refine ⟨_, (pss_one (ps_ret (pe_dget2 hu (pe_dget2 hu (pv 0) (pv 1) pe_dnewK ⟨rfl, rfl, rfl, rfl⟩) (pv 2) pe_int ⟨rfl, rfl, rfl, rfl⟩))), ?_⟩
    (dsimp only [cxOf, Cx.nox, Cx.wish, L2.start, List.map, List.length, List.replicate, List.cons_append, List.nil_append, List.append_eq, Nat.reduceSub, Nat.reduceAdd])
    walk_at "my_rd"
    refine q_dNew fun d nd => ?_
    have ha2 := upd_new (w := .dK []) nd ha
    have sm : Same H (upd H d (.dK [])) := Same.up (Same.refl _) nd
    refine q_dG2S ha2 ?_
    rcases hR.val t with ⟨e1, e2⟩ | ⟨r, b, e1, e2, _, hb⟩
    · rw [e2]
      refine q_dG2a upd_same ?_
      walk_at "my_rd"
      refine q_dG2S upd_same ?_
      have e : heldT tb t x = 0 := by unfold heldT rowOf; rw [e1]; rfl
      have k2 := k _ sm
      rw [e] at k2
      exact k2
    · rw [e2]
      refine q_dG2a (sm _ _ hb) ?_
      walk_at "my_rd"
      refine q_dG2S (sm _ _ hb) ?_
      rw [rowK_get]
      have e : heldT tb t x = getRow r x := by unfold heldT rowOf; rw [e1]; rfl
      have k2 := k _ sm
      rw [e] at k2
      exact k2
theorem ok_put (T : Txt K mg) : FnOk P w K mg base CX0 1 T.f_put T.d_put ["table", "token", "name", "amount"] sp_put := by
  refine T.F_put.ok sc_put (fun vs H Q E h => ?_) (fun cdv A outer s H vs Q E hr h => ?_)
  · obtain ⟨a, t, x, i, tb, as, rfl, _⟩ := h; rfl
  · obtain ⟨a, t, x, i, tb, as, rfl, hT, hl1, hl2, k⟩ := h
    obtain ⟨kvs, ha, hR⟩ := hT.ex
    have hu := hu_of hr
    refine ⟨_, (pss_cons (ps_set (i := 4) sc_put.nd rfl (Or.inl rfl) (pe_dsetd (pv 0) (pv 1) pe_dnewK ⟨rfl, rfl, rfl, rfl⟩))
      (pss_one (ps_dput hu (pv 4) (pv 2) (pe_op op_add (pe_dget2 hu (pv 4) (pv 2) pe_int ⟨rfl, rfl, rfl, rfl⟩) (pv 3)) rfl))), ?_⟩
    (dsimp only [cxOf, Cx.nox, Cx.wish, L2.start, List.map, List.length, List.replicate, List.cons_append, List.nil_append, List.append_eq, Nat.reduceSub, Nat.reduceAdd])
    walk_at "my_rd"
    refine q_dNew fun d nd => ?_
    have ha2 := upd_new (w := .dK []) nd ha
    have nad : a ≠ d := ne_of_none ha nd
    have hda : d ∉ as := fun z => by
      obtain ⟨r, q⟩ := hR.mem z
      rw [nd] at q; cases q
    have sm : Same H (upd H d (.dK [])) := Same.up (Same.refl _) nd
    refine q_dSdS ha2 (by rw [hR.len]; exact small1000 (by omega)) (fun v hv => ?_) (fun hv => ?_)
    · rcases hR.val t with ⟨_, e2⟩ | ⟨r, b, e1, e2, hm, hb⟩
      · rw [e2] at hv; cases hv
      · rw [e2] at hv
        injection hv with hv
        subst hv
        have er : rowOf tb t = r := by unfold rowOf; rw [e1]; rfl
        have hb2 := sm _ _ hb
        have nba : b ≠ a := fun z => hT.out (z ▸ hm)
        have nbd : b ≠ d := fun z => hda (z ▸ hm)
        walk_at "my_rd"
        refine q_dG2S hb2 ?_
        rw [rowK_get]
        walk_at "my_rd"
        refine q_dPutS hb2 (by unfold rowK; rw [List.length_map, ← er]; exact small1000 (by omega)) ?_
        walk_at "my_rd"
        rw [rowK_put]
        refine k _ as ⟨⟨kvs, upd_other nba.symm ha2, ?_⟩, hT.out⟩ (fun c hc => .inl hc) ?_
        · unfold putT
          rw [er]
          exact hR.set e2 upd_same fun c _ hc o q => upd_other hc (sm _ _ q)
        · intro c o q hc
          exact upd_other (fun z => hc (List.mem_cons_of_mem _ (z ▸ hm))) (sm _ _ q)
    · rcases hR.val t with ⟨e1, e2⟩ | ⟨r, b, e1, e2, hm, hb⟩
      · have er : rowOf tb t = [] := by unfold rowOf; rw [e1]; rfl
        have hd2 : upd (upd H d (.dK [])) a (.dK (putK kvs (Sum.inr t) (.ref d))) d = some (.dK (rowK [])) := upd_other nad.symm upd_same
        walk_at "my_rd"
        refine q_dG2S hd2 ?_
        rw [rowK_get]
        walk_at "my_rd"
        refine q_dPutS hd2 (by show 0 < sizeLine; exact small1000 (by omega)) ?_
        walk_at "my_rd"
        rw [rowK_put, putK_new _ hv]
        refine k _ (as ++ [d]) ⟨⟨_, upd_other nad upd_same, ?_⟩, ?_⟩ (fun c hc => ?_) ?_
        · unfold putT
          rw [er]
          refine TRows.snoc (hR.mono fun c hc o q => ?_) e2 upd_same hda
          exact upd_other (fun z => hda (z ▸ hc)) (upd_other (fun z => hT.out (z ▸ hc)) (sm _ _ q))
        · intro z
          rcases List.mem_append.mp z with z | z
          · exact hT.out z
          · exact nad (List.mem_singleton.mp z)
        · rcases List.mem_append.mp hc with z | z
          · exact .inl z
          · exact .inr (List.mem_singleton.mp z ▸ nd)
        · intro c o q hc
          refine upd_other (ne_of_none q nd) (upd_other (fun z => hc (z ▸ List.mem_cons_self)) (sm _ _ q))
      · rw [e2] at hv; cases hv
end

local macro_rules | `(tactic| walk_at "my_rd") => `(tactic| (repeat first
  | with_reducible refine q_tCons ?_
  | ((with_reducible apply q_var); (focus (exact rfl)))
  | with_reducible refine q_c ?_
  | ((with_reducible apply q_nxE); (focus (with_reducible exact rfl)))
  | with_reducible refine q_bK ?_
  | with_reducible refine q_call ?_
  | with_reducible refine q_callK ?_
  | with_reducible refine q_tNil ?_
  | with_reducible refine q_cb ?_
  | with_reducible refine q_seq ?_
  | with_reducible refine q_asg ?_
  | with_reducible refine q_gName ?_
  | with_reducible refine q_op ?_
  | with_reducible refine q_test ?_
  | with_reducible refine q_tB ?_
  | with_reducible refine q_ifS ?_
  | with_reducible refine q_ret ?_
  | ((with_reducible apply q_rtE); (focus (with_reducible exact rfl)))
  | with_reducible refine q_next ?_
  | with_reducible refine q_ifF ?_
  | with_reducible refine q_ifT ?_
  | with_reducible refine q_drop ?_
  | with_reducible refine q_and ?_
  | with_reducible refine q_or ?_
  | with_reducible refine q_andT ?_
  | with_reducible refine q_andF ?_
  | with_reducible refine q_orF ?_
  | with_reducible refine q_orT ?_
  | with_reducible refine q_andV ?_
  | with_reducible refine q_andVT ?_
  | with_reducible refine q_andVF ?_
  | with_reducible refine q_orV ?_
  | with_reducible refine q_gCons ?_
  | with_reducible refine q_gNil ?_
  | with_reducible refine q_tup ?_
  | with_reducible refine q_lst ?_
  | with_reducible refine q_not ?_
  | with_reducible refine q_notKT ?_
  | with_reducible refine q_notKF ?_
  | with_reducible refine q_I0 ?_
  | with_reducible refine q_eqI ?_
  | with_reducible refine q_neI ?_
  | ((with_reducible refine q_I ?_ ?_); first | decide | omega | exact ⟨by omega, by omega⟩ | exact ⟨by decide, by decide⟩ | exact .inl ⟨by omega, by omega⟩ | exact .inr ⟨by omega, by omega⟩ | exact .inr ⟨by decide, by decide⟩)
  | with_reducible refine q_eqS ?_
  | with_reducible refine q_neS ?_
  | with_reducible refine q_brk ?_
  | with_reducible refine q_ct ?_
  | ((with_reducible apply q_bkE); (focus (with_reducible exact rfl)))
  | ((with_reducible apply q_cnE); (focus (with_reducible exact rfl)))
  | with_reducible refine q_retN ?_
  | with_reducible refine q_gSub ?_
  | with_reducible refine q_for ?_
  | with_reducible refine q_iList ?_
  | with_reducible refine q_iTup ?_
  | with_reducible refine q_iRng1 ?_
  | with_reducible refine q_notK ?_
  | with_reducible refine q_orVT ?_
  | with_reducible refine q_orVF ?_
  | with_reducible refine q_notV ?_
  | with_reducible refine q_notVK ?_
  | with_reducible refine q_ifE ?_
  | with_reducible refine q_ifET ?_
  | with_reducible refine q_ifEF ?_
  | with_reducible refine q_yes ?_
  | with_reducible refine q_un ?_
  | with_reducible refine q_rU ?_
  | with_reducible refine q_abs ?_
  | with_reducible refine q_int1 ?_
  | with_reducible refine q_bm ?_
  | with_reducible refine q_bm0 ?_
  | with_reducible refine q_lc ?_
  | with_reducible refine q_keepT ?_
  | with_reducible refine q_keepF ?_
  | ((with_reducible apply q_aug); (focus (exact rfl)))
  | with_reducible refine q_ipI ?_
  | with_reducible refine q_chain ?_
  | with_reducible refine q_pairC ?_
  | with_reducible refine q_pairsK ?_
  | with_reducible refine q_pairN ?_
  | with_reducible refine q_fld ?_
  | with_reducible refine q_sFld ?_
  | with_reducible refine q_meth ?_
  | with_reducible refine q_makeK ?_
  | with_reducible refine q_isBl ?_
  | with_reducible refine q_notBl ?_
  | with_reducible refine q_sl ?_
  | with_reducible refine q_noPart ?_
  | with_reducible refine q_part ?_
  | with_reducible refine q_partK ?_
  | ((with_reducible apply q_mulStr); (focus (decide +kernel)))
  | with_reducible refine q_chT ?_
  | with_reducible refine q_chF ?_
  | with_reducible refine q_ord ?_
  | with_reducible refine q_iStr0 ?_
  | with_reducible refine q_iStr ?_
  | with_reducible refine q_tDIn ?_
  | with_reducible refine q_tDNotIn ?_
  | with_reducible refine q_tDGet ?_
  | with_reducible refine q_tDGet2 ?_
  | with_reducible refine q_tDGet1 ?_
  | with_reducible refine q_tDSetd ?_
  | ((with_reducible apply q_dG2a); (focus ((repeat first | (with_reducible exact upd_same) | (with_reducible assumption) | (with_reducible apply upd_new (by assumption)) | (with_reducible apply upd_other (by first | assumption | exact Ne.symm (by assumption))) | (with_reducible refine' Kp.get (by assumption) ?_ (by first | assumption | exact Ne.symm (by assumption))) | (with_reducible apply Same.get (by assumption))); done)))
  | ((with_reducible apply q_dSda); (focus ((repeat first | (with_reducible exact upd_same) | (with_reducible assumption) | (with_reducible apply upd_new (by assumption)) | (with_reducible apply upd_other (by first | assumption | exact Ne.symm (by assumption))) | (with_reducible refine' Kp.get (by assumption) ?_ (by first | assumption | exact Ne.symm (by assumption))) | (with_reducible apply Same.get (by assumption))); done)))
  | with_reducible refine q_sDPut ?_
  | ((with_reducible apply q_dInS); (focus ((repeat first | (with_reducible exact upd_same) | (with_reducible assumption) | (with_reducible apply upd_new (by assumption)) | (with_reducible apply upd_other (by first | assumption | exact Ne.symm (by assumption))) | (with_reducible refine' Kp.get (by assumption) ?_ (by first | assumption | exact Ne.symm (by assumption))) | (with_reducible apply Same.get (by assumption))); done)))
  | ((with_reducible apply q_dNInS); (focus ((repeat first | (with_reducible exact upd_same) | (with_reducible assumption) | (with_reducible apply upd_new (by assumption)) | (with_reducible apply upd_other (by first | assumption | exact Ne.symm (by assumption))) | (with_reducible refine' Kp.get (by assumption) ?_ (by first | assumption | exact Ne.symm (by assumption))) | (with_reducible apply Same.get (by assumption))); done)))
  | ((with_reducible apply q_dInI); (focus ((repeat first | (with_reducible exact upd_same) | (with_reducible assumption) | (with_reducible apply upd_new (by assumption)) | (with_reducible apply upd_other (by first | assumption | exact Ne.symm (by assumption))) | (with_reducible refine' Kp.get (by assumption) ?_ (by first | assumption | exact Ne.symm (by assumption))) | (with_reducible apply Same.get (by assumption))); done)))
  | ((with_reducible apply q_dNInI); (focus ((repeat first | (with_reducible exact upd_same) | (with_reducible assumption) | (with_reducible apply upd_new (by assumption)) | (with_reducible apply upd_other (by first | assumption | exact Ne.symm (by assumption))) | (with_reducible refine' Kp.get (by assumption) ?_ (by first | assumption | exact Ne.symm (by assumption))) | (with_reducible apply Same.get (by assumption))); done)))
  | ((with_reducible apply q_bmL); (focus ((repeat first | (with_reducible exact upd_same) | (with_reducible assumption) | (with_reducible apply upd_new (by assumption)) | (with_reducible apply upd_other (by first | assumption | exact Ne.symm (by assumption))) | (with_reducible refine' Kp.get (by assumption) ?_ (by first | assumption | exact Ne.symm (by assumption))) | (with_reducible apply Same.get (by assumption))); done)))
  | ((with_reducible apply q_bmL0); (focus ((repeat first | (with_reducible exact upd_same) | (with_reducible assumption) | (with_reducible apply upd_new (by assumption)) | (with_reducible apply upd_other (by first | assumption | exact Ne.symm (by assumption))) | (with_reducible refine' Kp.get (by assumption) ?_ (by first | assumption | exact Ne.symm (by assumption))) | (with_reducible apply Same.get (by assumption))); done)))
  | ((with_reducible apply q_ixLt); (focus ((repeat first | (with_reducible exact upd_same) | (with_reducible assumption) | (with_reducible apply upd_new (by assumption)) | (with_reducible apply upd_other (by first | assumption | exact Ne.symm (by assumption))) | (with_reducible refine' Kp.get (by assumption) ?_ (by first | assumption | exact Ne.symm (by assumption))) | (with_reducible apply Same.get (by assumption))); done)); (focus (exact rfl)))
  | ((with_reducible apply q_ixTt); (focus ((repeat first | (with_reducible exact upd_same) | (with_reducible assumption) | (with_reducible apply upd_new (by assumption)) | (with_reducible apply upd_other (by first | assumption | exact Ne.symm (by assumption))) | (with_reducible refine' Kp.get (by assumption) ?_ (by first | assumption | exact Ne.symm (by assumption))) | (with_reducible apply Same.get (by assumption))); done)); (focus (exact rfl)))
  | ((with_reducible apply q_lenLt); (focus ((repeat first | (with_reducible exact upd_same) | (with_reducible assumption) | (with_reducible apply upd_new (by assumption)) | (with_reducible apply upd_other (by first | assumption | exact Ne.symm (by assumption))) | (with_reducible refine' Kp.get (by assumption) ?_ (by first | assumption | exact Ne.symm (by assumption))) | (with_reducible apply Same.get (by assumption))); done)))
  | ((with_reducible apply q_lenTt); (focus ((repeat first | (with_reducible exact upd_same) | (with_reducible assumption) | (with_reducible apply upd_new (by assumption)) | (with_reducible apply upd_other (by first | assumption | exact Ne.symm (by assumption))) | (with_reducible refine' Kp.get (by assumption) ?_ (by first | assumption | exact Ne.symm (by assumption))) | (with_reducible apply Same.get (by assumption))); done)))
  | ((with_reducible apply q_append); (focus ((repeat first | (with_reducible exact upd_same) | (with_reducible assumption) | (with_reducible apply upd_new (by assumption)) | (with_reducible apply upd_other (by first | assumption | exact Ne.symm (by assumption))) | (with_reducible refine' Kp.get (by assumption) ?_ (by first | assumption | exact Ne.symm (by assumption))) | (with_reducible apply Same.get (by assumption))); done)); (focus ((first | (exact Nat.lt_of_ble_eq_true rfl) | (simp only [List.length_append, List.length_cons, List.length_nil, List.length_map]; exact small1000 (by omega))))))
  | ((with_reducible apply q_setL); (focus ((repeat first | (with_reducible exact upd_same) | (with_reducible assumption) | (with_reducible apply upd_new (by assumption)) | (with_reducible apply upd_other (by first | assumption | exact Ne.symm (by assumption))) | (with_reducible refine' Kp.get (by assumption) ?_ (by first | assumption | exact Ne.symm (by assumption))) | (with_reducible apply Same.get (by assumption))); done)); (focus (exact rfl)))
  | with_reducible refine q_ifNT ?_
  | with_reducible refine q_ifNF ?_
  | with_reducible refine q_andNT ?_
  | with_reducible refine q_andNF ?_
  | with_reducible refine q_orNT ?_
  | with_reducible refine q_orNF ?_
  | with_reducible refine q_bKNT ?_
  | with_reducible refine q_bKNF ?_
  | with_reducible refine q_tNGet ?_
  | with_reducible refine q_tNIn ?_
  | with_reducible refine q_sNPut ?_
  | with_reducible refine q_sFldAug ?_
  | with_reducible refine q_sDAug ?_
  | with_reducible refine q_sDDel ?_
  | with_reducible refine q_forX ?_
  | with_reducible refine q_tMake ?_
  | ((with_reducible apply q_dG1a); (focus ((repeat first | (with_reducible exact upd_same) | (with_reducible assumption) | (with_reducible apply upd_new (by assumption)) | (with_reducible apply upd_other (by first | assumption | exact Ne.symm (by assumption))) | (with_reducible refine' Kp.get (by assumption) ?_ (by first | assumption | exact Ne.symm (by assumption))) | (with_reducible apply Same.get (by assumption))); done)))))
/-! Sheet.__init__ -/
theorem putRow_len (r : Row) (x : Str) (i : Int) : (putRow r x i).length ≤ r.length + 1 := by
  unfold putRow
  split
  · rw [List.length_map]; omega
  · rw [List.length_append]; exact Nat.le_refl _
theorem tabAt_cons (t' : Str) (r' : Row) (tb : Tab2) (t : Str) : tabAt ((t', r') :: tb) t = if t' = t then some r' else tabAt tb t := by
  unfold tabAt
  by_cases e : t' = t
  · rw [if_pos e, List.find?_cons_of_pos (by rw [decide_eq_true e])]; rfl
  · rw [if_neg e, List.find?_cons_of_neg (by rw [decide_eq_false e]; exact Bool.false_ne_true)]
theorem tabAt_set (tb : Tab2) (t : Str) (r : Row) (t2 : Str) : tabAt (setRow tb t r) t2 = if t = t2 then some r else tabAt tb t2 := by
  induction tb with
  | nil => exact tabAt_cons t r [] t2
  | cons p tb ih =>
    obtain ⟨t', r'⟩ := p
    show tabAt (if t' = t then _ else _) t2 = _
    by_cases e : t' = t
    · rw [if_pos e, tabAt_cons, tabAt_cons]
      subst e
      by_cases e2 : t' = t2
      · rw [if_pos e2, if_pos e2]
      · rw [if_neg e2, if_neg e2, if_neg e2]
    · rw [if_neg e, tabAt_cons, tabAt_cons, ih]
      by_cases e2 : t' = t2
      · rw [if_pos e2, if_pos e2, if_neg (fun z => e (e2.trans z.symm))]
      · rw [if_neg e2, if_neg e2]
theorem setRow_len (tb : Tab2) (t : Str) (r : Row) : (setRow tb t r).length ≤ tb.length + 1 := by
  induction tb with
  | nil => exact Nat.le_refl _
  | cons p tb ih =>
    obtain ⟨t', r'⟩ := p
    show (if t' = t then _ else _ : Tab2).length ≤ _
    split
    · exact Nat.le_succ _
    · exact Nat.succ_le_succ ih
/-- no more than n tokens, no row with more than n names -/
structure TabB (n : Nat) (tb : Tab2) : Prop where
  len : tb.length ≤ n
  row : ∀ t, (rowOf tb t).length ≤ n
theorem TabB.nil : TabB 0 [] := ⟨Nat.le_refl _, fun _ => Nat.le_refl _⟩
theorem rowOf_put (tb : Tab2) (t x : Str) (i : Int) (t2 : Str) : rowOf (putT tb t x i) t2 = if t = t2 then putRow (rowOf tb t) x (getRow (rowOf tb t) x + i) else rowOf tb t2 := by
  unfold putT
  show (tabAt (setRow tb t _) t2).getD [] = _
  rw [tabAt_set]
  split <;> rfl
theorem TabB.put {n : Nat} {tb : Tab2} (h : TabB n tb) (t x : Str) (i : Int) : TabB (n + 1) (putT tb t x i) := by
  refine ⟨Nat.le_trans (setRow_len _ _ _) (Nat.succ_le_succ h.len), fun t2 => ?_⟩
  rw [rowOf_put]
  split
  · exact Nat.le_trans (putRow_len _ _ _) (Nat.succ_le_succ (h.row t))
  · exact Nat.le_succ_of_le (h.row t2)
theorem TabB.mono {n m : Nat} {tb : Tab2} (h : TabB n tb) (e : n ≤ m) : TabB m tb := ⟨Nat.le_trans h.len e, fun t => Nat.le_trans (h.row t) e⟩
def openT (bs : List BalR) : Tab2 := bs.foldl (fun tb b => putT tb b.tok b.acc b.amt) []
theorem openT_snoc (bs : List BalR) (b : BalR) : openT (bs ++ [b]) = putT (openT bs) b.tok b.acc b.amt := by
  unfold openT
  rw [List.foldl_append]
  rfl
theorem openT_B (bs : List BalR) : ∀ n, n = bs.length → TabB n (openT bs) := by
  intro n
  induction n generalizing bs with
  | zero =>
    intro e
    have : bs = [] := List.length_eq_zero_iff.mp e.symm
    subst this
    exact TabB.nil
  | succ n ih =>
    intro e
    have hne : bs ≠ [] := by rintro rfl; cases e
    have e2 := List.dropLast_concat_getLast hne
    rw [← e2, openT_snoc]
    exact (ih _ (by rw [List.length_dropLast]; omega)).put _ _ _
/-- what a sheet holds, and where -/
structure Sh where
  cf : Addr
  side : Str
  ba : Addr
  bo : Addr
  va : Addr
  bal : Tab2
  bon : Tab2
  vau : Row
  bs : List Addr
  ds : List Addr
def Sh.foot (S : Sh) : List Addr := S.ba :: S.bs ++ (S.bo :: S.ds ++ [S.va])
def shNames : List Str := ["_config", "_side", "_balances", "_bonds", "_vaults"]
structure ShAt (C : Addr) (H : Hp) (x : Addr) (S : Sh) : Prop where
  ex : ∃ dx fs, H x = some (.ins C dx fs) ∧ fs.lookup ("_config" : Str) = some (.ref S.cf) ∧ fs.lookup ("_side" : Str) = some (.str S.side) ∧ fs.lookup ("_balances" : Str) = some (.ref S.ba) ∧ fs.lookup ("_bonds" : Str) = some (.ref S.bo) ∧ fs.lookup ("_vaults" : Str) = some (.ref S.va) ∧ (∀ m : Str, m ∉ shNames → fs.lookup m = none) ∧ fs.length ≤ 5
  b : TblAt H S.ba S.bal S.bs
  d : TblAt H S.bo S.bon S.ds
  v : H S.va = some (.dK (rowK S.vau))
  n1 : ∀ b ∈ S.ba :: S.bs, b ∉ S.bo :: S.ds
  n2 : S.va ∉ S.ba :: S.bs
  n3 : S.va ∉ S.bo :: S.ds
def sp_sheet (C Cc : Addr) : Sp := fun vs H Q _ => ∃ (x dx cf g : Addr) (c : Parts) (sd : Str), vs = [.ref x, .ref cf, .str sd] ∧ H x = some (.ins C dx []) ∧ CfgAt Cc c g H cf ∧ c.Ok ∧
  ∀ (H' : Hp) (S : Sh), ShAt C H' x S → S.cf = cf → S.side = sd → S.bal = openT (c.bals.filter fun b => decide (c.homeOf b.tok = sd)) → S.bon = [] → S.vau = [] → (∀ b ∈ S.foot, H b = none) → Kp x H H' → Q .non H'
theorem CfgAt.kp {C Cc : Addr} {c : Parts} {g : Addr} {H H' : Hp} {cf x dx : Addr} (h : CfgAt Cc c g H cf) (hx : H x = some (.ins C dx [])) (k : Kp x H H') : CfgAt Cc c g H' cf := by
  obtain ⟨dy, fs, td, bl, kvs, bv, h1, h2, h3, h4, h5, h6, h7, h8, h9, h10, h11, h12, h13⟩ := h.ex
  have ne : cf ≠ x := ne_of h1 hx (by
    intro z
    injection z with _ _ z
    subst z
    cases h2)
  exact ⟨dy, fs, td, bl, kvs, bv, k.get h1 ne, h2, h3, h4, h5, h6, h7, h8, h9, k.get h10 (ne_of h10 hx (by intro z; cases z)), h11.mono fun b ys q => k.get q (ne_of q hx (by intro z; cases z)), k.get h12 (ne_of h12 hx (by intro z; cases z)), h13.kp hx k⟩
section
variable {P : Program} {w : World} {K : PySem.W.Frag} {mg : Str → Option Value} {base : Heap}
theorem ok_Sheet_init (T : Txt K mg) : FnOk P w K mg base CX0 4 T.f_Sheet_init T.d_Sheet_init ["self", "config", "side"] (sp_sheet T.C_Sheet T.C_Config) := by
  refine T.F_Sheet_init.ok sc_Sheet_init (fun vs H Q E h => ?_) (fun cdv A outer s H vs Q E hr h => ?_)
  · obtain ⟨x, dx, cf, g, c, sd, rfl, _⟩ := h; rfl
  · obtain ⟨x, dx, cf, g, c, sd, rfl, hx, hC, hc, k⟩ := h
    have hu := hu_of hr
    refine ⟨_, (pss_cons (ps_fld (pv 0) (pv 1) rfl)
      (pss_cons (ps_fld (pv 0) (pv 2) rfl)
      (pss_cons (ps_fld (pv 0) pe_dnewK rfl)
      (pss_cons (ps_fld (pv 0) pe_dnewK rfl)
      (pss_cons (ps_fld (pv 0) pe_dnewK rfl)
      (pss_one (ps_for PassesOwn.never rfl (pi_list (pe_meth (pv 1) T.cl_Config T.m_Config_opening (ok_Config_opening T) (hr.mono (by decide)) T.b_Config_opening .nil pass0 (pa_cons (pv 2) pa_nil))) (pg_tup rfl (pgs_cons (pg_name (i := 3) sc_Sheet_init.nd rfl (Or.inl rfl)) (pgs_cons (pg_name (i := 4) sc_Sheet_init.nd rfl (Or.inl rfl)) (pgs_cons (pg_name (i := 5) sc_Sheet_init.nd rfl (Or.inl rfl)) pgs_nil))))
        (pss_one (ps_expr (pe_call (ok_put T) (hr.mono (by decide)) (by rfl) T.g_put T.F_put.kp T.b_put .nil pass0 (pa_cons (pe_fld (pv 0) rfl) (pa_cons (pv 4) (pa_cons (pv 3) (pa_cons (pv 5) pa_nil)))))))))))))), ?_⟩
    (dsimp only [cxOf, Cx.nox, Cx.wish, L2.start, List.map, List.length, List.replicate, List.cons_append, List.nil_append, List.append_eq, Nat.reduceSub, Nat.reduceAdd])
    walk_at "my_rd"
    refine q_fputK hx T.cl_Sheet T.n_Sheet_config (by show 0 < 1000; decide) ?_
    walk_at "my_rd"
    refine q_fputK upd_same T.cl_Sheet T.n_Sheet_side (Nat.lt_of_le_of_lt (q_fldlen (n := 0) (by show 0 ≤ 0; decide)) (by decide)) ?_
    walk_at "my_rd"
    rw [upd_upd]
    refine q_dNew fun ba nba => ?_
    have nxa : ba ≠ x := upd_none_ne nba
    have ba0 : H ba = none := upd_none_back nba
    walk_at "my_rd"
    refine q_fputK (upd_new nba upd_same) T.cl_Sheet T.n_Sheet_balances (Nat.lt_of_le_of_lt (q_fldlen (n := 1) (q_fldlen (n := 0) (by show 0 ≤ 0; decide))) (by decide)) ?_
    walk_at "my_rd"
    refine q_dNew fun bo nbo => ?_
    have nxo : bo ≠ x := upd_none_ne nbo
    have bo1 := upd_none_back nbo
    have nao : bo ≠ ba := upd_none_ne bo1
    have bo0 : H bo = none := upd_none_back (upd_none_back bo1)
    walk_at "my_rd"
    refine q_fputK (upd_new nbo upd_same) T.cl_Sheet T.n_Sheet_bonds (Nat.lt_of_le_of_lt (q_fldlen (n := 2) (q_fldlen (n := 1) (q_fldlen (n := 0) (by show 0 ≤ 0; decide)))) (by decide)) ?_
    walk_at "my_rd"
    refine q_dNew fun va nva => ?_
    have nxv : va ≠ x := upd_none_ne nva
    have va1 := upd_none_back nva
    have nvo : va ≠ bo := upd_none_ne va1
    have va2 := upd_none_back (upd_none_back va1)
    have nva2 : va ≠ ba := upd_none_ne va2
    have va0 : H va = none := upd_none_back (upd_none_back va2)
    walk_at "my_rd"
    refine q_fputK (upd_new nva upd_same) T.cl_Sheet T.n_Sheet_vaults (Nat.lt_of_le_of_lt (q_fldlen (n := 3) (q_fldlen (n := 2) (q_fldlen (n := 1) (q_fldlen (n := 0) (by show 0 ≤ 0; decide))))) (by decide)) ?_
    walk_at "my_rd"
    generalize hfs : putF (Str.ofString "_vaults") (V.ref va) _ = fs
    generalize hH5 : upd (upd _ va (.dK [])) x _ = H5
    have hx5 : H5 x = some (.ins T.C_Sheet dx fs) := by rw [← hH5]; exact upd_same
    have hv5 : H5 va = some (.dK []) := by rw [← hH5]; exact upd_other nxv upd_same
    have ho5 : H5 bo = some (.dK []) := by rw [← hH5]; exact upd_other nxo (upd_other nvo.symm (upd_other nxo upd_same))
    have ha5 : H5 ba = some (.dK []) := by rw [← hH5]; exact upd_other nxa (upd_other nva2.symm (upd_other nxa (upd_other nao.symm (upd_other nxa upd_same))))
    have kp5 : Kp x H H5 := by
      rw [← hH5]
      exact Kp.upd (Kp.new (Kp.upd (Kp.new (Kp.upd (Kp.new (Kp.upd Kp.refl) ba0)) bo0)) va0)
    have hf5 : ∀ z, H5 z = none → H z = none := fun z hz => Kp.fresh kp5 hx hz (fun e => by rw [e, hx5] at hz; cases hz)
    have hC5 : CfgAt T.C_Config c g H5 cf := hC.kp hx kp5
    clear hH5
    have lk1 : fs.lookup ("_config" : Str) = some (.ref cf) := by rw [← hfs]; (repeat first | rfl | rw [lookup_putF, if_pos rfl] | rw [lookup_putF, if_neg (by decide +kernel)])
    have lk2 : fs.lookup ("_side" : Str) = some (.str sd) := by rw [← hfs]; (repeat first | rfl | rw [lookup_putF, if_pos rfl] | rw [lookup_putF, if_neg (by decide +kernel)])
    have lk3 : fs.lookup ("_balances" : Str) = some (.ref ba) := by rw [← hfs]; (repeat first | rfl | rw [lookup_putF, if_pos rfl] | rw [lookup_putF, if_neg (by decide +kernel)])
    have lk4 : fs.lookup ("_bonds" : Str) = some (.ref bo) := by rw [← hfs]; (repeat first | rfl | rw [lookup_putF, if_pos rfl] | rw [lookup_putF, if_neg (by decide +kernel)])
    have lk5 : fs.lookup ("_vaults" : Str) = some (.ref va) := by rw [← hfs]; (repeat first | rfl | rw [lookup_putF, if_pos rfl] | rw [lookup_putF, if_neg (by decide +kernel)])
    have lk6 : ∀ m : Str, m ∉ shNames → fs.lookup m = none := by
      intro m hm
      have hne : ∀ z ∈ shNames, ¬ m = z := fun z hz e => hm (e ▸ hz)
      rw [← hfs, lookup_putF, if_neg (hne _ (by decide +kernel)), lookup_putF, if_neg (hne _ (by decide +kernel)), lookup_putF, if_neg (hne _ (by decide +kernel)), lookup_putF, if_neg (hne _ (by decide +kernel)), lookup_putF, if_neg (hne _ (by decide +kernel))]
      rfl
    have lk7 : fs.length ≤ 5 := by rw [← hfs]; exact q_fldlen (q_fldlen (q_fldlen (q_fldlen (q_fldlen (n := 0) (by show 0 ≤ 0; decide)))))
    clear hfs
    clear nva va1 va2 nbo bo1 nba
    obtain ⟨dy, gs, td, bl, kvs, bv, h1, h2, h3, h4, h5, h6, h7, h8, h9, h10, h11, h12, h13⟩ := hC5.ex
    walk_at "my_rd"
    refine q_methK h1 (h9 _ no_opening) fun R hR => ?_
    walk_at "my_rd"
    refine hR _ _ ⟨cf, g, c, sd, rfl, hC5, hc, fun p ys H6 np hp6 hR6 sm6 => ?_⟩
    have rsl : (c.bals.filter fun b => decide (c.homeOf b.tok = sd)).length ≤ c.bals.length := List.length_filter_le _ _
    generalize (c.bals.filter fun b => decide (c.homeOf b.tok = sd)) = rs at rsl k hR6
    have ha6 := sm6 _ _ ha5
    have ho6 := sm6 _ _ ho5
    have hv6 := sm6 _ _ hv5
    have hx6 := sm6 _ _ hx5
    have nxa6 : x ≠ ba := nxa.symm
    have npa : p ≠ ba := (ne_of_none ha5 np).symm
    have tab0 : TblAt H6 ba (openT (rs.take 0)) [] := ⟨⟨[], ha6, .nil⟩, by simp⟩
    refine q_forL (sqL hp6) (fun i σ H' => ∃ (as : List Addr) (v1 v2 v3 : Option V), σ = [some (.ref x), some (.ref cf), some (.str sd), v1, v2, v3] ∧ TblAt H' ba (openT (rs.take i)) as ∧ (∀ b ∈ as, H6 b = none) ∧ Kp ba H6 H')
      ⟨[], none, none, none, rfl, tab0, by simp, Kp.refl⟩ (fun i σ H' _ ⟨_, _, _, _, _, _, _, kp⟩ => sqL (Kp.get kp hp6 npa)) ?_ ?_
    · rintro i v σ H7 hv ⟨as, v1, v2, v3, rfl, hT7, hn7, kp7⟩
      obtain ⟨b, r, hb, rfl, hr0⟩ := hR6.item hv
      have hr1 : H7 r = some (.tup [.str b.acc, .str b.tok, .int b.amt]) := Kp.get kp7 hr0 (ne_of hr0 ha6 (by intro z; cases z))
      have hi : i < rs.length := (List.getElem?_eq_some_iff.mp hb).1
      have hB := openT_B (rs.take i) i (by rw [List.length_take]; omega)
      have hbl := hc.bl
      refine q_gTup (sqT hr1) rfl ?_
      walk_at "my_rd"
      refine q_fldK (Kp.get kp7 hx6 nxa6) T.cl_Sheet T.n_Sheet_balances lk3 ?_
      walk_at "my_rd"
      refine ⟨ba, b.tok, b.acc, b.amt, openT (rs.take i), as, rfl, hT7, by have := hB.len; omega, by have := hB.row b.tok; omega, fun H8 as' hT8 hn8 kp8 => ?_⟩
      walk_at "my_rd"
      refine ⟨as', _, _, _, rfl, ?_, ?_, ?_⟩
      · rw [take_snoc hb, openT_snoc]; exact hT8
      · intro z hz
        rcases hn8 z hz with m | m
        · exact hn7 z m
        · refine Kp.fresh kp7 ha6 m fun e => ?_
          obtain ⟨_, q, _⟩ := hT7.ex
          rw [e, q] at m
          cases m
      · intro z o q nz
        refine kp8 z o (kp7 z o q nz) fun m => ?_
        rcases List.mem_cons.mp m with m | m
        · exact nz m
        · rw [hn7 z m] at q; cases q
    · rintro σ H7 ⟨as, v1, v2, v3, rfl, hT7, hn7, kp7⟩
      rw [hR6.len, List.take_length] at hT7
      walk_at "my_rd"
      have out6 : ∀ z o, H6 z = some o → z ∉ as := fun z o q m => by rw [hn7 z m] at q; cases q
      have nva6 : va ≠ ba := nva2
      refine k H7 ⟨cf, sd, ba, bo, va, openT rs, [], [], as, []⟩ ⟨⟨dx, fs, Kp.get kp7 hx6 nxa6, lk1, lk2, lk3, lk4, lk5, lk6, lk7⟩, hT7, ⟨⟨[], Kp.get kp7 ho6 nao, .nil⟩, by simp⟩, Kp.get kp7 hv6 nva2, ?_, ?_, ?_⟩ rfl rfl rfl rfl rfl ?_ ?_
      · intro z hz m
        have e : z = bo := List.mem_singleton.mp m
        subst e
        rcases List.mem_cons.mp hz with e | e
        · exact nao e
        · exact out6 _ _ ho6 e
      · intro m
        rcases List.mem_cons.mp m with e | e
        · exact nva2 e
        · exact out6 _ _ hv6 e
      · intro m
        exact nvo (List.mem_singleton.mp m)
      · intro z hz
        have hz2 : z ∈ ba :: as ++ (bo :: [] ++ [va]) := hz
        rcases List.mem_append.mp hz2 with m | m
        · rcases List.mem_cons.mp m with e | e
          · exact e ▸ ba0
          · refine hf5 z ?_
            cases q : H5 z with
            | none => rfl
            | some o => exact absurd e (out6 _ _ (sm6 _ _ q))
        · rcases List.mem_cons.mp m with e | e
          · exact e ▸ bo0
          · exact List.mem_singleton.mp e ▸ va0
      · intro z o q nz
        exact kp7 z o (sm6 _ _ (kp5 z o q nz)) fun e => by rw [e, ba0] at q; cases q
end

local macro_rules | `(tactic| walk_at "my_rd") => `(tactic| (repeat first
  | with_reducible refine q_tCons ?_
  | ((with_reducible apply q_var); (focus (exact rfl)))
  | with_reducible refine q_c ?_
  | ((with_reducible apply q_nxE); (focus (with_reducible exact rfl)))
  | with_reducible refine q_bK ?_
  | with_reducible refine q_call ?_
  | with_reducible refine q_callK ?_
  | with_reducible refine q_tNil ?_
  | with_reducible refine q_cb ?_
  | with_reducible refine q_seq ?_
  | with_reducible refine q_asg ?_
  | with_reducible refine q_gName ?_
  | with_reducible refine q_op ?_
  | with_reducible refine q_test ?_
  | with_reducible refine q_tB ?_
  | with_reducible refine q_ifS ?_
  | with_reducible refine q_ret ?_
  | ((with_reducible apply q_rtE); (focus (with_reducible exact rfl)))
  | with_reducible refine q_next ?_
  | with_reducible refine q_ifF ?_
  | with_reducible refine q_ifT ?_
  | with_reducible refine q_drop ?_
  | with_reducible refine q_and ?_
  | with_reducible refine q_or ?_
  | with_reducible refine q_andT ?_
  | with_reducible refine q_andF ?_
  | with_reducible refine q_orF ?_
  | with_reducible refine q_orT ?_
  | with_reducible refine q_andV ?_
  | with_reducible refine q_andVT ?_
  | with_reducible refine q_andVF ?_
  | with_reducible refine q_orV ?_
  | with_reducible refine q_gCons ?_
  | with_reducible refine q_gNil ?_
  | with_reducible refine q_tup ?_
  | with_reducible refine q_lst ?_
  | with_reducible refine q_not ?_
  | with_reducible refine q_notKT ?_
  | with_reducible refine q_notKF ?_
  | with_reducible refine q_I0 ?_
  | with_reducible refine q_eqI ?_
  | with_reducible refine q_neI ?_
  | ((with_reducible refine q_I ?_ ?_); first | decide | omega | exact ⟨by omega, by omega⟩ | exact ⟨by decide, by decide⟩ | exact .inl ⟨by omega, by omega⟩ | exact .inr ⟨by omega, by omega⟩ | exact .inr ⟨by decide, by decide⟩)
  | with_reducible refine q_eqS ?_
  | with_reducible refine q_neS ?_
  | with_reducible refine q_brk ?_
  | with_reducible refine q_ct ?_
  | ((with_reducible apply q_bkE); (focus (with_reducible exact rfl)))
  | ((with_reducible apply q_cnE); (focus (with_reducible exact rfl)))
  | with_reducible refine q_retN ?_
  | with_reducible refine q_gSub ?_
  | with_reducible refine q_for ?_
  | with_reducible refine q_iList ?_
  | with_reducible refine q_iTup ?_
  | with_reducible refine q_iRng1 ?_
  | with_reducible refine q_notK ?_
  | with_reducible refine q_orVT ?_
  | with_reducible refine q_orVF ?_
  | with_reducible refine q_notV ?_
  | with_reducible refine q_notVK ?_
  | with_reducible refine q_ifE ?_
  | with_reducible refine q_ifET ?_
  | with_reducible refine q_ifEF ?_
  | with_reducible refine q_yes ?_
  | with_reducible refine q_un ?_
  | with_reducible refine q_rU ?_
  | with_reducible refine q_abs ?_
  | with_reducible refine q_int1 ?_
  | with_reducible refine q_bm ?_
  | with_reducible refine q_bm0 ?_
  | with_reducible refine q_lc ?_
  | with_reducible refine q_keepT ?_
  | with_reducible refine q_keepF ?_
  | ((with_reducible apply q_aug); (focus (exact rfl)))
  | with_reducible refine q_ipI ?_
  | with_reducible refine q_chain ?_
  | with_reducible refine q_pairC ?_
  | with_reducible refine q_pairsK ?_
  | with_reducible refine q_pairN ?_
  | with_reducible refine q_fld ?_
  | with_reducible refine q_sFld ?_
  | with_reducible refine q_meth ?_
  | with_reducible refine q_makeK ?_
  | with_reducible refine q_isBl ?_
  | with_reducible refine q_notBl ?_
  | with_reducible refine q_sl ?_
  | with_reducible refine q_noPart ?_
  | with_reducible refine q_part ?_
  | with_reducible refine q_partK ?_
  | ((with_reducible apply q_mulStr); (focus (decide +kernel)))
  | with_reducible refine q_chT ?_
  | with_reducible refine q_chF ?_
  | with_reducible refine q_ord ?_
  | with_reducible refine q_iStr0 ?_
  | with_reducible refine q_iStr ?_
  | with_reducible refine q_tDIn ?_
  | with_reducible refine q_tDNotIn ?_
  | with_reducible refine q_tDGet ?_
  | with_reducible refine q_tDGet2 ?_
  | with_reducible refine q_tDGet1 ?_
  | with_reducible refine q_tDSetd ?_
  | ((with_reducible apply q_dG2a); (focus ((repeat first | (with_reducible exact upd_same) | (with_reducible assumption) | (with_reducible apply upd_new (by assumption)) | (with_reducible apply upd_other (by first | assumption | exact Ne.symm (by assumption))) | (with_reducible refine' Kp.get (by assumption) ?_ (by first | assumption | exact Ne.symm (by assumption))) | (with_reducible apply Same.get (by assumption))); done)))
  | ((with_reducible apply q_dSda); (focus ((repeat first | (with_reducible exact upd_same) | (with_reducible assumption) | (with_reducible apply upd_new (by assumption)) | (with_reducible apply upd_other (by first | assumption | exact Ne.symm (by assumption))) | (with_reducible refine' Kp.get (by assumption) ?_ (by first | assumption | exact Ne.symm (by assumption))) | (with_reducible apply Same.get (by assumption))); done)))
  | with_reducible refine q_sDPut ?_
  | ((with_reducible apply q_dInS); (focus ((repeat first | (with_reducible exact upd_same) | (with_reducible assumption) | (with_reducible apply upd_new (by assumption)) | (with_reducible apply upd_other (by first | assumption | exact Ne.symm (by assumption))) | (with_reducible refine' Kp.get (by assumption) ?_ (by first | assumption | exact Ne.symm (by assumption))) | (with_reducible apply Same.get (by assumption))); done)))
  | ((with_reducible apply q_dNInS); (focus ((repeat first | (with_reducible exact upd_same) | (with_reducible assumption) | (with_reducible apply upd_new (by assumption)) | (with_reducible apply upd_other (by first | assumption | exact Ne.symm (by assumption))) | (with_reducible refine' Kp.get (by assumption) ?_ (by first | assumption | exact Ne.symm (by assumption))) | (with_reducible apply Same.get (by assumption))); done)))
  | ((with_reducible apply q_dInI); (focus ((repeat first | (with_reducible exact upd_same) | (with_reducible assumption) | (with_reducible apply upd_new (by assumption)) | (with_reducible apply upd_other (by first | assumption | exact Ne.symm (by assumption))) | (with_reducible refine' Kp.get (by assumption) ?_ (by first | assumption | exact Ne.symm (by assumption))) | (with_reducible apply Same.get (by assumption))); done)))
  | ((with_reducible apply q_dNInI); (focus ((repeat first | (with_reducible exact upd_same) | (with_reducible assumption) | (with_reducible apply upd_new (by assumption)) | (with_reducible apply upd_other (by first | assumption | exact Ne.symm (by assumption))) | (with_reducible refine' Kp.get (by assumption) ?_ (by first | assumption | exact Ne.symm (by assumption))) | (with_reducible apply Same.get (by assumption))); done)))
  | ((with_reducible apply q_bmL); (focus ((repeat first | (with_reducible exact upd_same) | (with_reducible assumption) | (with_reducible apply upd_new (by assumption)) | (with_reducible apply upd_other (by first | assumption | exact Ne.symm (by assumption))) | (with_reducible refine' Kp.get (by assumption) ?_ (by first | assumption | exact Ne.symm (by assumption))) | (with_reducible apply Same.get (by assumption))); done)))
  | ((with_reducible apply q_bmL0); (focus ((repeat first | (with_reducible exact upd_same) | (with_reducible assumption) | (with_reducible apply upd_new (by assumption)) | (with_reducible apply upd_other (by first | assumption | exact Ne.symm (by assumption))) | (with_reducible refine' Kp.get (by assumption) ?_ (by first | assumption | exact Ne.symm (by assumption))) | (with_reducible apply Same.get (by assumption))); done)))
  | ((with_reducible apply q_ixLt); (focus ((repeat first | (with_reducible exact upd_same) | (with_reducible assumption) | (with_reducible apply upd_new (by assumption)) | (with_reducible apply upd_other (by first | assumption | exact Ne.symm (by assumption))) | (with_reducible refine' Kp.get (by assumption) ?_ (by first | assumption | exact Ne.symm (by assumption))) | (with_reducible apply Same.get (by assumption))); done)); (focus (exact rfl)))
  | ((with_reducible apply q_ixTt); (focus ((repeat first | (with_reducible exact upd_same) | (with_reducible assumption) | (with_reducible apply upd_new (by assumption)) | (with_reducible apply upd_other (by first | assumption | exact Ne.symm (by assumption))) | (with_reducible refine' Kp.get (by assumption) ?_ (by first | assumption | exact Ne.symm (by assumption))) | (with_reducible apply Same.get (by assumption))); done)); (focus (exact rfl)))
  | ((with_reducible apply q_lenLt); (focus ((repeat first | (with_reducible exact upd_same) | (with_reducible assumption) | (with_reducible apply upd_new (by assumption)) | (with_reducible apply upd_other (by first | assumption | exact Ne.symm (by assumption))) | (with_reducible refine' Kp.get (by assumption) ?_ (by first | assumption | exact Ne.symm (by assumption))) | (with_reducible apply Same.get (by assumption))); done)))
  | ((with_reducible apply q_lenTt); (focus ((repeat first | (with_reducible exact upd_same) | (with_reducible assumption) | (with_reducible apply upd_new (by assumption)) | (with_reducible apply upd_other (by first | assumption | exact Ne.symm (by assumption))) | (with_reducible refine' Kp.get (by assumption) ?_ (by first | assumption | exact Ne.symm (by assumption))) | (with_reducible apply Same.get (by assumption))); done)))
  | ((with_reducible apply q_append); (focus ((repeat first | (with_reducible exact upd_same) | (with_reducible assumption) | (with_reducible apply upd_new (by assumption)) | (with_reducible apply upd_other (by first | assumption | exact Ne.symm (by assumption))) | (with_reducible refine' Kp.get (by assumption) ?_ (by first | assumption | exact Ne.symm (by assumption))) | (with_reducible apply Same.get (by assumption))); done)); (focus ((first | (exact Nat.lt_of_ble_eq_true rfl) | (simp only [List.length_append, List.length_cons, List.length_nil, List.length_map]; exact small1000 (by omega))))))
  | ((with_reducible apply q_setL); (focus ((repeat first | (with_reducible exact upd_same) | (with_reducible assumption) | (with_reducible apply upd_new (by assumption)) | (with_reducible apply upd_other (by first | assumption | exact Ne.symm (by assumption))) | (with_reducible refine' Kp.get (by assumption) ?_ (by first | assumption | exact Ne.symm (by assumption))) | (with_reducible apply Same.get (by assumption))); done)); (focus (exact rfl)))
  | with_reducible refine q_ifNT ?_
  | with_reducible refine q_ifNF ?_
  | with_reducible refine q_andNT ?_
  | with_reducible refine q_andNF ?_
  | with_reducible refine q_orNT ?_
  | with_reducible refine q_orNF ?_
  | with_reducible refine q_bKNT ?_
  | with_reducible refine q_bKNF ?_
  | with_reducible refine q_tNGet ?_
  | with_reducible refine q_tNIn ?_
  | with_reducible refine q_sNPut ?_
  | with_reducible refine q_sFldAug ?_
  | with_reducible refine q_sDAug ?_
  | with_reducible refine q_sDDel ?_
  | with_reducible refine q_forX ?_
  | with_reducible refine q_tMake ?_
  | ((with_reducible apply q_dG1a); (focus ((repeat first | (with_reducible exact upd_same) | (with_reducible assumption) | (with_reducible apply upd_new (by assumption)) | (with_reducible apply upd_other (by first | assumption | exact Ne.symm (by assumption))) | (with_reducible refine' Kp.get (by assumption) ?_ (by first | assumption | exact Ne.symm (by assumption))) | (with_reducible apply Same.get (by assumption))); done)))))
/-! copies -/
theorem dc_it {J : It} {n : Nat} {G : Hp → Prop} {Y : Nat → Hp → V → Hp → Prop} (w : Walk J n G Y) {g : TG} {tt : TT} {tk tv : TE} {vs : List Nat} {σ : L2.St} {H1 : Hp} {D : Addr} {Qd : Hp → Prop} (Pv : Nat → Hp → Prop) (h0 : Pv 0 (upd H1 D (.dK []))) (hG : ∀ i H, i ≤ n → Pv i H → G H)
    (hs : ∀ i x H H', i < n → Pv i H → Y i H x H' → g x (wipe σ vs) H' fun σ2 H2 => wipe σ2 vs = wipe σ vs ∧ tt σ2 H2 fun b H3 =>
      if b = true then tk σ2 H3 fun y H4 => tv σ2 H4 fun z H5 => ∃ kvs k, y = kV k ∧ H5 D = some (.dK kvs) ∧ kvs.length < sizeLine ∧ Pv (i + 1) (upd H5 D (.dK (putK kvs k z))) else Pv (i + 1) H3) (hd : ∀ H, Pv n H → Qd H) :
    ∃ W : Nat → Nat → Hp → Prop, (∃ m, W 0 m (upd H1 D (.dK []))) ∧ ∀ i m H, W i m H →
      (J.stop i H ∧ Qd H) ∨ (J.go i H ∧ ∃ Nx : Hp → Prop, (∀ H', Nx H' → ∃ m', m' < m ∧ W (i + 1) m' H') ∧ ∀ x H', J.yld i H x H' → g x (wipe σ vs) H' fun σ2 H2 => wipe σ2 vs = wipe σ vs ∧ tt σ2 H2 fun b H3 =>
        if b = true then tk σ2 H3 fun y H4 => tv σ2 H4 fun z H5 => ∃ kvs k, y = kV k ∧ H5 D = some (.dK kvs) ∧ kvs.length < sizeLine ∧ Nx (upd H5 D (.dK (putK kvs k z))) else Nx H3) := by
  refine ⟨fun i m H => m = n - i ∧ i ≤ n ∧ Pv i H, ⟨n, by simp, Nat.zero_le _, h0⟩, ?_⟩
  rintro i m H ⟨rfl, hi, p⟩
  have q := hG i H hi p
  by_cases hlt : i < n
  · refine .inr ⟨w.goes i H hlt q, Pv (i + 1), fun H' p' => ⟨n - (i + 1), by omega, rfl, hlt, p'⟩, fun x H' y => hs i x H H' hlt p (w.yields i H x H' hlt q y)⟩
  · have e : i = n := by omega
    subst e
    exact .inl ⟨w.stops H q, hd H p⟩
theorem TRows.item {H : Hp} {tb : Tab2} {as : List Addr} {kvs : List (Key × V)} (h : TRows H tb as kvs) : ∀ {i : Nat} {k : Key} {v : V}, kvs[i]? = some (k, v) → ∃ t r b, tb[i]? = some (t, r) ∧ k = Sum.inr t ∧ v = .ref b ∧ b ∈ as ∧ H b = some (.dK (rowK r)) := by
  induction h with
  | nil => intro i k v q; simp at q
  | @cons t r a tb as kvs h1 h2 h3 ih =>
    intro i k v q
    cases i with
    | zero =>
      have e : (Sum.inr t, V.ref a) = (k, v) := Option.some.inj q
      injection e with e1 e2
      exact ⟨t, r, a, rfl, e1.symm, e2.symm, List.mem_cons_self, h1⟩
    | succ i =>
      obtain ⟨t', r', b, q1, q2, q3, q4, q5⟩ := ih (i := i) q
      exact ⟨t', r', b, q1, q2, q3, List.mem_cons_of_mem _ q4, q5⟩
theorem tabAt_none {tb : Tab2} {t : Str} (h : t ∉ tb.map (·.1)) : tabAt tb t = none := by
  induction tb with
  | nil => rfl
  | cons p tb ih =>
    obtain ⟨t', r'⟩ := p
    rw [List.map_cons, List.mem_cons, not_or] at h
    rw [tabAt_cons, if_neg (fun e => h.1 e.symm), ih h.2]
theorem tabAt_at {tb : Tab2} (hn : (tb.map (·.1)).Nodup) : ∀ {i : Nat} {t : Str} {r : Row}, tb[i]? = some (t, r) → tabAt tb t = some r := by
  induction tb with
  | nil => intro i t r h; simp at h
  | cons p tb ih =>
    obtain ⟨t', r'⟩ := p
    intro i t r h
    rw [List.map_cons, List.nodup_cons] at hn
    rw [tabAt_cons]
    cases i with
    | zero =>
      have e : (t', r') = (t, r) := Option.some.inj h
      injection e with e1 e2
      rw [if_pos e1, e2]
    | succ i =>
      have h' : tb[i]? = some (t, r) := h
      rw [if_neg (fun e : t' = t => hn.1 (by rw [e]; exact List.mem_map.mpr ⟨_, List.mem_of_getElem? h', rfl⟩)), ih hn.2 h']
theorem setRow_new {tb : Tab2} {t : Str} (h : tabAt tb t = none) (r : Row) : setRow tb t r = tb ++ [(t, r)] := by
  induction tb with
  | nil => rfl
  | cons p tb ih =>
    obtain ⟨t', r'⟩ := p
    rw [tabAt_cons] at h
    show (if t' = t then _ else _ : Tab2) = _
    by_cases e : t' = t
    · rw [if_pos e] at h; cases h
    · rw [if_neg e] at h
      rw [if_neg e, ih h]
      rfl
def sp_copied : Sp := fun vs H Q _ => ∃ (a : Addr) (tb : Tab2) (as : List Addr), vs = [.ref a] ∧ TblAt H a tb as ∧ tb.length ≤ 999 ∧ (tb.map (·.1)).Nodup ∧
  ∀ (d : Addr) (ds : List Addr) (H' : Hp), H d = none → TblAt H' d tb ds → (∀ b ∈ ds, H b = none) → Same H H' → Q (.ref d) H'
section
variable {P : Program} {w : World} {K : PySem.W.Frag} {mg : Str → Option Value} {base : Heap}
theorem ok_copied (T : Txt K mg) : FnOk P w K mg base CX0 1 T.f_copied T.d_copied ["table"] sp_copied := by
  refine T.F_copied.ok sc_copied (fun vs H Q E h => ?_) (fun cdv A outer s H vs Q E hr h => ?_)
  · obtain ⟨a, tb, as, rfl, _⟩ := h; rfl
  · obtain ⟨a, tb, as, rfl, hT, hl, hnd, k⟩ := h
    obtain ⟨kvs, ha, hR⟩ := hT.ex
    have hu := hu_of hr
    refine ⟨_, (pss_one (ps_ret (pe_lock (pe_dc (own := [("token", 1)]) (g := (gName 1)) (tt := tYes) rfl sc_copied.nd (pi_keys (pv 0)) (blkOk_by (own := [("token", 1)]) (N := ["table", "token"]) (sc := defScope s_copied) (by decide +kernel)) (fun _ _ _ _ _ => (pg_name (i := 1) sc_copied.nd rfl (Or.inl rfl))) (fun _ _ _ _ _ => pts_nil) (fun _ _ _ _ _ => (pv 1)) (fun _ _ _ _ _ => (pe_callTy call_dictD (by rfl) T.z_dict boot_dict (pa_cons (pe_dget hu (pv 0) (pv 1) (fun _ _ => rfl)) pa_nil))))))), ?_⟩
    (dsimp only [cxOf, Cx.nox, Cx.wish, L2.start, List.map, List.length, List.replicate, List.cons_append, List.nil_append, List.append_eq, Nat.reduceSub, Nat.reduceAdd])
    walk_at "my_rd"
    refine ⟨a, _, ha, trivial, fun od => ?_⟩
    have nda : ∀ {D : Addr}, upd H a (.frz od (.dK kvs)) D = none → D ≠ a ∧ H D = none := fun q => ⟨upd_none_ne q, upd_none_back q⟩
    have haf : ∀ b ∈ as, b ≠ a := fun b hb e => hT.out (e ▸ hb)
    unfold tDc iKeys
    refine q_var (v := .ref a) rfl ⟨a, od, rfl, .inl ⟨kvs, upd_same, fun D nD => ?_⟩⟩
    have hF : upd H a (.frz od (.dK kvs)) a = some (.frz od (.dK kvs)) := upd_same
    obtain ⟨nDa, hD0⟩ := nda nD
    generalize hHF : upd H a (.frz od (.dK kvs)) = HF at nD hF
    have keep : ∀ b o, H b = some o → b ≠ a → HF b = some o := fun b o q n => by rw [← hHF]; exact upd_other n q
    have none_ : ∀ b, HF b = none → H b = none := fun b q => by rw [← hHF] at q; exact upd_none_back q
    refine dc_it walk_keys (fun i H2 => ∃ (ds : List Addr) (kv2 : List (Key × V)), H2 D = some (.dK kv2) ∧ TRows H2 (tb.take i) ds kv2 ∧ (∀ b ∈ ds, HF b = none ∧ b ≠ D) ∧ Same HF H2)
      ⟨[], [], upd_same, .nil, by simp, Same.new (Same.refl _) nD⟩ (fun i H2 _ ⟨_, _, _, _, _, sm⟩ => sm _ _ hF) ?_ ?_
    · rintro i v H2 H3 hi ⟨ds, kv2, hD, hR2, hn, sm⟩ ⟨rfl, k2, v2, hkv, rfl⟩
      obtain ⟨t, r, b, htb, rfl, rfl, hb, hrb⟩ := hR.item hkv
      have hil : i < tb.length := (List.getElem?_eq_some_iff.mp htb).1
      have hnew : t ∉ (tb.take i).map (·.1) := by
        intro hm
        have h3 : ((tb.take (i + 1)).map (·.1)).Nodup := (List.Sublist.map _ (List.take_sublist _ _)).nodup hnd
        rw [take_snoc htb, List.map_append] at h3
        exact (List.nodup_append.mp h3).2.2 t hm t (by simp) rfl
      have htn := tabAt_none hnew
      obtain ⟨b', hvb, hb', hrb'⟩ : ∃ b', valV kvs (Sum.inr t) = some (.ref b') ∧ b' ∈ as ∧ H b' = some (.dK (rowK r)) := by
        rcases hR.val t with ⟨q, _⟩ | ⟨r', b', q1, q2, q3, q4⟩
        · rw [tabAt_at hnd htb] at q; cases q
        · rw [tabAt_at hnd htb] at q1
          cases q1
          exact ⟨b', q2, q3, q4⟩
      have hv2 : valV kv2 (Sum.inr t) = none := by
        rcases hR2.val t with ⟨_, q⟩ | ⟨_, _, q, _⟩
        · exact q
        · rw [htn] at q; cases q
      have hb3 : H3 b' = some (.dK (rowK r)) := sm _ _ (keep _ _ hrb' (haf _ hb'))
      refine q_gName ⟨rfl, ?_⟩
      refine q_yes ?_
      refine iteT ?_
      walk_at "my_rd"
      refine ⟨a, .ref b', rfl, .inl ⟨kvs, .inr t, .inr ⟨od, sm _ _ hF⟩, rfl, hvb.symm⟩, ?_⟩
      walk_at "my_rd"
      refine ⟨b', rowK r, rfl, .inl hb3, fun p np => ?_⟩
      have npD : p ≠ D := (ne_of_none hD np).symm
      refine ⟨kv2, .inr t, rfl, upd_new np hD, by rw [hR2.len, List.length_take]; exact small1000 (by omega), ds ++ [p], kv2 ++ [(.inr t, .ref p)], ?_, ?_, ?_, ?_⟩
      · rw [putK_new _ hv2]; exact upd_same
      · rw [take_snoc htb, ← setRow_new htn]
        refine TRows.snoc (hR2.mono fun c hc o q => upd_other (hn c hc).2 (upd_new np q)) hv2 (upd_other npD upd_same) fun m => ?_
        obtain ⟨_, q⟩ := hR2.mem m
        rw [np] at q; cases q
      · intro b hb
        rcases List.mem_append.mp hb with m | m
        · exact hn b m
        · rw [List.mem_singleton.mp m]
          exact ⟨Same.free sm np, npD⟩
      · intro b o q
        exact upd_other (ne_of_none q nD) (upd_new np (sm _ _ q))
    · rintro H2 ⟨ds, kv2, hD, hR2, hn, sm⟩
      rw [hR.len, List.take_length] at hR2
      have ha2 : H2 a = some (.frz od (.dK kvs)) := sm _ _ hF
      refine ⟨ha2, ?_⟩
      have sm2 : Same H (upd H2 a (.dK kvs)) := by
        intro b o q
        by_cases e : b = a
        · subst e
          rw [ha] at q
          cases q
          exact upd_same
        · exact upd_other e (sm _ _ (keep b o q e))
      exact k D ds _ hD0 ⟨⟨kv2, upd_other nDa hD, hR2.mono fun b hb o q => upd_other (fun e => by
        have := (hn b hb).1
        rw [e, hF] at this; cases this) q⟩, fun m => (hn D m).2 rfl⟩ (fun b hb => none_ b (hn b hb).1) sm2
end

local macro_rules | `(tactic| walk_at "my_rd") => `(tactic| (repeat first
  | with_reducible refine q_tCons ?_
  | ((with_reducible apply q_var); (focus (exact rfl)))
  | with_reducible refine q_c ?_
  | ((with_reducible apply q_nxE); (focus (with_reducible exact rfl)))
  | with_reducible refine q_bK ?_
  | with_reducible refine q_call ?_
  | with_reducible refine q_callK ?_
  | with_reducible refine q_tNil ?_
  | with_reducible refine q_cb ?_
  | with_reducible refine q_seq ?_
  | with_reducible refine q_asg ?_
  | with_reducible refine q_gName ?_
  | with_reducible refine q_op ?_
  | with_reducible refine q_test ?_
  | with_reducible refine q_tB ?_
  | with_reducible refine q_ifS ?_
  | with_reducible refine q_ret ?_
  | ((with_reducible apply q_rtE); (focus (with_reducible exact rfl)))
  | with_reducible refine q_next ?_
  | with_reducible refine q_ifF ?_
  | with_reducible refine q_ifT ?_
  | with_reducible refine q_drop ?_
  | with_reducible refine q_and ?_
  | with_reducible refine q_or ?_
  | with_reducible refine q_andT ?_
  | with_reducible refine q_andF ?_
  | with_reducible refine q_orF ?_
  | with_reducible refine q_orT ?_
  | with_reducible refine q_andV ?_
  | with_reducible refine q_andVT ?_
  | with_reducible refine q_andVF ?_
  | with_reducible refine q_orV ?_
  | with_reducible refine q_gCons ?_
  | with_reducible refine q_gNil ?_
  | with_reducible refine q_tup ?_
  | with_reducible refine q_lst ?_
  | with_reducible refine q_not ?_
  | with_reducible refine q_notKT ?_
  | with_reducible refine q_notKF ?_
  | with_reducible refine q_I0 ?_
  | with_reducible refine q_eqI ?_
  | with_reducible refine q_neI ?_
  | ((with_reducible refine q_I ?_ ?_); first | decide | omega | exact ⟨by omega, by omega⟩ | exact ⟨by decide, by decide⟩ | exact .inl ⟨by omega, by omega⟩ | exact .inr ⟨by omega, by omega⟩ | exact .inr ⟨by decide, by decide⟩)
  | with_reducible refine q_eqS ?_
  | with_reducible refine q_neS ?_
  | with_reducible refine q_brk ?_
  | with_reducible refine q_ct ?_
  | ((with_reducible apply q_bkE); (focus (with_reducible exact rfl)))
  | ((with_reducible apply q_cnE); (focus (with_reducible exact rfl)))
  | with_reducible refine q_retN ?_
  | with_reducible refine q_gSub ?_
  | with_reducible refine q_for ?_
  | with_reducible refine q_iList ?_
  | with_reducible refine q_iTup ?_
  | with_reducible refine q_iRng1 ?_
  | with_reducible refine q_notK ?_
  | with_reducible refine q_orVT ?_
  | with_reducible refine q_orVF ?_
  | with_reducible refine q_notV ?_
  | with_reducible refine q_notVK ?_
  | with_reducible refine q_ifE ?_
  | with_reducible refine q_ifET ?_
  | with_reducible refine q_ifEF ?_
  | with_reducible refine q_yes ?_
  | with_reducible refine q_un ?_
  | with_reducible refine q_rU ?_
  | with_reducible refine q_abs ?_
  | with_reducible refine q_int1 ?_
  | with_reducible refine q_bm ?_
  | with_reducible refine q_bm0 ?_
  | with_reducible refine q_lc ?_
  | with_reducible refine q_keepT ?_
  | with_reducible refine q_keepF ?_
  | ((with_reducible apply q_aug); (focus (exact rfl)))
  | with_reducible refine q_ipI ?_
  | with_reducible refine q_chain ?_
  | with_reducible refine q_pairC ?_
  | with_reducible refine q_pairsK ?_
  | with_reducible refine q_pairN ?_
  | with_reducible refine q_fld ?_
  | with_reducible refine q_sFld ?_
  | with_reducible refine q_meth ?_
  | with_reducible refine q_makeK ?_
  | with_reducible refine q_isBl ?_
  | with_reducible refine q_notBl ?_
  | with_reducible refine q_sl ?_
  | with_reducible refine q_noPart ?_
  | with_reducible refine q_part ?_
  | with_reducible refine q_partK ?_
  | ((with_reducible apply q_mulStr); (focus (decide +kernel)))
  | with_reducible refine q_chT ?_
  | with_reducible refine q_chF ?_
  | with_reducible refine q_ord ?_
  | with_reducible refine q_iStr0 ?_
  | with_reducible refine q_iStr ?_
  | with_reducible refine q_tDIn ?_
  | with_reducible refine q_tDNotIn ?_
  | with_reducible refine q_tDGet ?_
  | with_reducible refine q_tDGet2 ?_
  | with_reducible refine q_tDGet1 ?_
  | with_reducible refine q_tDSetd ?_
  | ((with_reducible apply q_dG2a); (focus ((repeat first | (with_reducible exact upd_same) | (with_reducible assumption) | (with_reducible apply upd_new (by assumption)) | (with_reducible apply upd_other (by first | assumption | exact Ne.symm (by assumption))) | (with_reducible refine' Kp.get (by assumption) ?_ (by first | assumption | exact Ne.symm (by assumption))) | (with_reducible apply Same.get (by assumption))); done)))
  | ((with_reducible apply q_dSda); (focus ((repeat first | (with_reducible exact upd_same) | (with_reducible assumption) | (with_reducible apply upd_new (by assumption)) | (with_reducible apply upd_other (by first | assumption | exact Ne.symm (by assumption))) | (with_reducible refine' Kp.get (by assumption) ?_ (by first | assumption | exact Ne.symm (by assumption))) | (with_reducible apply Same.get (by assumption))); done)))
  | with_reducible refine q_sDPut ?_
  | ((with_reducible apply q_dInS); (focus ((repeat first | (with_reducible exact upd_same) | (with_reducible assumption) | (with_reducible apply upd_new (by assumption)) | (with_reducible apply upd_other (by first | assumption | exact Ne.symm (by assumption))) | (with_reducible refine' Kp.get (by assumption) ?_ (by first | assumption | exact Ne.symm (by assumption))) | (with_reducible apply Same.get (by assumption))); done)))
  | ((with_reducible apply q_dNInS); (focus ((repeat first | (with_reducible exact upd_same) | (with_reducible assumption) | (with_reducible apply upd_new (by assumption)) | (with_reducible apply upd_other (by first | assumption | exact Ne.symm (by assumption))) | (with_reducible refine' Kp.get (by assumption) ?_ (by first | assumption | exact Ne.symm (by assumption))) | (with_reducible apply Same.get (by assumption))); done)))
  | ((with_reducible apply q_dInI); (focus ((repeat first | (with_reducible exact upd_same) | (with_reducible assumption) | (with_reducible apply upd_new (by assumption)) | (with_reducible apply upd_other (by first | assumption | exact Ne.symm (by assumption))) | (with_reducible refine' Kp.get (by assumption) ?_ (by first | assumption | exact Ne.symm (by assumption))) | (with_reducible apply Same.get (by assumption))); done)))
  | ((with_reducible apply q_dNInI); (focus ((repeat first | (with_reducible exact upd_same) | (with_reducible assumption) | (with_reducible apply upd_new (by assumption)) | (with_reducible apply upd_other (by first | assumption | exact Ne.symm (by assumption))) | (with_reducible refine' Kp.get (by assumption) ?_ (by first | assumption | exact Ne.symm (by assumption))) | (with_reducible apply Same.get (by assumption))); done)))
  | ((with_reducible apply q_bmL); (focus ((repeat first | (with_reducible exact upd_same) | (with_reducible assumption) | (with_reducible apply upd_new (by assumption)) | (with_reducible apply upd_other (by first | assumption | exact Ne.symm (by assumption))) | (with_reducible refine' Kp.get (by assumption) ?_ (by first | assumption | exact Ne.symm (by assumption))) | (with_reducible apply Same.get (by assumption))); done)))
  | ((with_reducible apply q_bmL0); (focus ((repeat first | (with_reducible exact upd_same) | (with_reducible assumption) | (with_reducible apply upd_new (by assumption)) | (with_reducible apply upd_other (by first | assumption | exact Ne.symm (by assumption))) | (with_reducible refine' Kp.get (by assumption) ?_ (by first | assumption | exact Ne.symm (by assumption))) | (with_reducible apply Same.get (by assumption))); done)))
  | ((with_reducible apply q_ixLt); (focus ((repeat first | (with_reducible exact upd_same) | (with_reducible assumption) | (with_reducible apply upd_new (by assumption)) | (with_reducible apply upd_other (by first | assumption | exact Ne.symm (by assumption))) | (with_reducible refine' Kp.get (by assumption) ?_ (by first | assumption | exact Ne.symm (by assumption))) | (with_reducible apply Same.get (by assumption))); done)); (focus (exact rfl)))
  | ((with_reducible apply q_ixTt); (focus ((repeat first | (with_reducible exact upd_same) | (with_reducible assumption) | (with_reducible apply upd_new (by assumption)) | (with_reducible apply upd_other (by first | assumption | exact Ne.symm (by assumption))) | (with_reducible refine' Kp.get (by assumption) ?_ (by first | assumption | exact Ne.symm (by assumption))) | (with_reducible apply Same.get (by assumption))); done)); (focus (exact rfl)))
  | ((with_reducible apply q_lenLt); (focus ((repeat first | (with_reducible exact upd_same) | (with_reducible assumption) | (with_reducible apply upd_new (by assumption)) | (with_reducible apply upd_other (by first | assumption | exact Ne.symm (by assumption))) | (with_reducible refine' Kp.get (by assumption) ?_ (by first | assumption | exact Ne.symm (by assumption))) | (with_reducible apply Same.get (by assumption))); done)))
  | ((with_reducible apply q_lenTt); (focus ((repeat first | (with_reducible exact upd_same) | (with_reducible assumption) | (with_reducible apply upd_new (by assumption)) | (with_reducible apply upd_other (by first | assumption | exact Ne.symm (by assumption))) | (with_reducible refine' Kp.get (by assumption) ?_ (by first | assumption | exact Ne.symm (by assumption))) | (with_reducible apply Same.get (by assumption))); done)))
  | ((with_reducible apply q_append); (focus ((repeat first | (with_reducible exact upd_same) | (with_reducible assumption) | (with_reducible apply upd_new (by assumption)) | (with_reducible apply upd_other (by first | assumption | exact Ne.symm (by assumption))) | (with_reducible refine' Kp.get (by assumption) ?_ (by first | assumption | exact Ne.symm (by assumption))) | (with_reducible apply Same.get (by assumption))); done)); (focus ((first | (exact Nat.lt_of_ble_eq_true rfl) | (simp only [List.length_append, List.length_cons, List.length_nil, List.length_map]; exact small1000 (by omega))))))
  | ((with_reducible apply q_setL); (focus ((repeat first | (with_reducible exact upd_same) | (with_reducible assumption) | (with_reducible apply upd_new (by assumption)) | (with_reducible apply upd_other (by first | assumption | exact Ne.symm (by assumption))) | (with_reducible refine' Kp.get (by assumption) ?_ (by first | assumption | exact Ne.symm (by assumption))) | (with_reducible apply Same.get (by assumption))); done)); (focus (exact rfl)))
  | with_reducible refine q_ifNT ?_
  | with_reducible refine q_ifNF ?_
  | with_reducible refine q_andNT ?_
  | with_reducible refine q_andNF ?_
  | with_reducible refine q_orNT ?_
  | with_reducible refine q_orNF ?_
  | with_reducible refine q_bKNT ?_
  | with_reducible refine q_bKNF ?_
  | with_reducible refine q_tNGet ?_
  | with_reducible refine q_tNIn ?_
  | with_reducible refine q_sNPut ?_
  | with_reducible refine q_sFldAug ?_
  | with_reducible refine q_sDAug ?_
  | with_reducible refine q_sDDel ?_
  | with_reducible refine q_forX ?_
  | with_reducible refine q_tMake ?_
  | ((with_reducible apply q_dG1a); (focus ((repeat first | (with_reducible exact upd_same) | (with_reducible assumption) | (with_reducible apply upd_new (by assumption)) | (with_reducible apply upd_other (by first | assumption | exact Ne.symm (by assumption))) | (with_reducible refine' Kp.get (by assumption) ?_ (by first | assumption | exact Ne.symm (by assumption))) | (with_reducible apply Same.get (by assumption))); done)))))
theorem TblAt.free {H : Hp} {a : Addr} {tb : Tab2} {as : List Addr} (h : TblAt H a tb as) {z : Addr} (hz : z ∈ a :: as) : ∃ kvs, H z = some (.dK kvs) := by
  obtain ⟨kvs, h1, h2⟩ := h.ex
  rcases List.mem_cons.mp hz with e | e
  · exact ⟨kvs, e ▸ h1⟩
  · obtain ⟨r, q⟩ := h2.mem e
    exact ⟨_, q⟩
theorem foot_b {S : Sh} {b : Addr} (h : b ∈ S.ba :: S.bs) : b ∈ S.foot := List.mem_append.mpr (.inl h)
theorem foot_d {S : Sh} {b : Addr} (h : b ∈ S.bo :: S.ds) : b ∈ S.foot := List.mem_append.mpr (.inr (List.mem_append.mpr (.inl h)))
theorem foot_v {S : Sh} : S.va ∈ S.foot := List.mem_append.mpr (.inr (List.mem_append.mpr (.inr (List.mem_singleton.mpr rfl))))
theorem foot_of {S : Sh} {b : Addr} (h : b ∈ S.foot) : b ∈ S.ba :: S.bs ∨ b ∈ S.bo :: S.ds ∨ b = S.va := by
  rcases List.mem_append.mp h with m | m
  · exact .inl m
  · rcases List.mem_append.mp m with m | m
    · exact .inr (.inl m)
    · exact .inr (.inr (List.mem_singleton.mp m))
theorem ShAt.footK {C x : Addr} {H : Hp} {S : Sh} (h : ShAt C H x S) {b : Addr} (hb : b ∈ S.foot) : ∃ kvs, H b = some (.dK kvs) := by
  rcases foot_of hb with m | m | m
  · exact h.b.free m
  · exact h.d.free m
  · subst m; exact ⟨_, h.v⟩
theorem ShAt.keep {C x : Addr} {H H' : Hp} {S : Sh} (h : ShAt C H x S) (hx : ∀ o, H x = some o → H' x = some o) (hf : ∀ b ∈ S.foot, ∀ o, H b = some o → H' b = some o) : ShAt C H' x S := by
  obtain ⟨dx, fs, h1, h2⟩ := h.ex
  exact ⟨⟨dx, fs, hx _ h1, h2⟩, h.b.mono (fun o q => hf _ (foot_b List.mem_cons_self) o q) (fun b hb o q => hf _ (foot_b (List.mem_cons_of_mem _ hb)) o q),
    h.d.mono (fun o q => hf _ (foot_d List.mem_cons_self) o q) (fun b hb o q => hf _ (foot_d (List.mem_cons_of_mem _ hb)) o q), hf _ foot_v _ h.v, h.n1, h.n2, h.n3⟩
theorem ShAt.out {C x a : Addr} {H H' : Hp} {S : Sh} {o : HO} (h : ShAt C H x S) (ha : H a = some o) (n1 : ∀ dx fs, o ≠ .ins C dx fs) (n2 : ∀ kvs, o ≠ .dK kvs) (k : Kp a H H') : ShAt C H' x S := by
  obtain ⟨dx, fs, h1, h2⟩ := h.ex
  refine h.keep (fun o' q => k.get q fun e => ?_) (fun b hb o' q => k.get q fun e => ?_)
  · subst e
    rw [h1] at ha
    exact n1 dx fs (Option.some.inj ha).symm
  · subst e
    obtain ⟨kvs, q2⟩ := h.footK hb
    rw [q2] at ha
    exact n2 kvs (Option.some.inj ha).symm
theorem setRow_keys (tb : Tab2) (t : Str) (r : Row) : (setRow tb t r).map (·.1) = if t ∈ tb.map (·.1) then tb.map (·.1) else tb.map (·.1) ++ [t] := by
  induction tb with
  | nil => rfl
  | cons p tb ih =>
    obtain ⟨t', r'⟩ := p
    show (if t' = t then (t, r) :: tb else (t', r') :: setRow tb t r : Tab2).map (·.1) = _
    by_cases e : t' = t
    · subst e
      rw [if_pos rfl, if_pos (by exact List.mem_cons_self)]
      rfl
    · rw [if_neg e, List.map_cons, ih]
      by_cases m : t ∈ tb.map (·.1)
      · rw [if_pos m, if_pos (by exact List.mem_cons_of_mem _ m)]
        rfl
      · rw [if_neg m, if_neg (by
          intro q
          rcases List.mem_cons.mp q with q | q
          · exact e q.symm
          · exact m q)]
        rfl
theorem putT_nd {tb : Tab2} (h : (tb.map (·.1)).Nodup) (t x : Str) (i : Int) : ((putT tb t x i).map (·.1)).Nodup := by
  unfold putT
  rw [setRow_keys]
  split
  · exact h
  · rename_i m
    refine List.nodup_append.mpr ⟨h, by simp, fun a ha b hb => ?_⟩
    rw [List.mem_singleton.mp hb]
    rintro rfl
    exact m ha
theorem openT_nd (bs : List BalR) : ((openT bs).map (·.1)).Nodup := by
  suffices h : ∀ (tb : Tab2), (tb.map (·.1)).Nodup → ((bs.foldl (fun tb b => putT tb b.tok b.acc b.amt) tb).map (·.1)).Nodup from h [] List.nodup_nil
  induction bs with
  | nil => exact fun tb h => h
  | cons b bs ih => exact fun tb h => ih _ (putT_nd h _ _ _)

/-! Sheet.copy -/
theorem TblAt.kp {H H' : Hp} {a y C dx : Addr} {fs : List (Str × V)} {tb : Tab2} {as : List Addr} (h : TblAt H a tb as) (hy : H y = some (.ins C dx fs)) (k : Kp y H H') : TblAt H' a tb as := by
  have n : ∀ z ∈ a :: as, z ≠ y := fun z hz e => by
    obtain ⟨kvs, q⟩ := h.free hz
    rw [e, hy] at q; cases q
  exact h.mono (fun o q => k a o q (n a List.mem_cons_self)) fun b hb o q => k b o q (n b (List.mem_cons_of_mem _ hb))
theorem putF_len {f : Str} {v z : V} : ∀ {fs : List (Str × V)}, fs.lookup f = some z → (putF f v fs).length = fs.length
  | [], h => by cases h
  | (g, x) :: r, h => by
    show (if g = f then (g, v) :: r else (g, x) :: putF f v r).length = _
    by_cases e : g = f
    · rw [if_pos e]; rfl
    · rw [if_neg e]
      have h2 : r.lookup f = some z := by
        simp only [List.lookup] at h
        have : (f == g) = false := by
          cases q : f == g with
          | false => rfl
          | true => exact absurd (eq_of_beq q).symm e
        rw [this] at h
        exact h
      exact congrArg (· + 1) (putF_len h2)
def sp_copy (C Cc : Addr) : Sp := fun vs H Q _ => ∃ (x g : Addr) (S : Sh) (c : Parts), vs = [.ref x] ∧ ShAt C H x S ∧ CfgAt Cc c g H S.cf ∧ c.Ok ∧ S.bal.length ≤ 999 ∧ S.bon.length ≤ 999 ∧ (S.bal.map (·.1)).Nodup ∧ (S.bon.map (·.1)).Nodup ∧
  ∀ (y : Addr) (H' : Hp) (S' : Sh), H y = none → ShAt C H' y S' → S'.cf = S.cf → S'.side = S.side → S'.bal = S.bal → S'.bon = S.bon → S'.vau = S.vau → (∀ b ∈ S'.foot, H b = none) → Same H H' → Q (.ref y) H'
theorem q_make {C : Addr} {sp : Sp} {E : XK} {ta : TA} {σ : L2.St} {H : Hp} {Q : VK} (h : ta σ H fun vs H2 => ∀ x dx, H2 x = none → H2 dx = none → dx ≠ x → sp (.ref x :: vs) (upd (upd H2 dx (.own x)) x (.ins C dx [])) (fun v H3 => v = .non ∧ Q (.ref x) H3) E) : tMake C sp [] E ta σ H Q := by
  unfold tMake
  simp only [List.append_nil]
  exact h
section
variable {P : Program} {w : World} {K : PySem.W.Frag} {mg : Str → Option Value} {base : Heap}
theorem ok_Sheet_copy (T : Txt K mg) : FnOk P w K mg base CX0 6 T.f_Sheet_copy T.d_Sheet_copy ["self"] (sp_copy T.C_Sheet T.C_Config) := by
  refine T.F_Sheet_copy.ok sc_Sheet_copy (fun vs H Q E h => ?_) (fun cdv A outer s H vs Q E hr h => ?_)
  · obtain ⟨x, g, S, c, rfl, _⟩ := h; rfl
  · obtain ⟨x, g, S, c, rfl, hS, hC, hc, hl1, hl2, hn1, hn2, k⟩ := h
    obtain ⟨dx, fs, h1, h2, h3, h4, h5, h6, h7⟩ := hS.ex
    have hu := hu_of hr
    refine ⟨_, (pss_cons (ps_set (i := 1) sc_Sheet_copy.nd rfl (Or.inl rfl) (pe_make T.mk_Sheet (ok_Sheet_init T) (hr.mono (by decide)) (by rfl) T.g_Sheet T.b_Sheet_init .nil pass0 (pa_cons (pe_fld (pv 0) rfl) (pa_cons (pe_fld (pv 0) rfl) pa_nil))))
      (pss_cons (ps_fld (pv 1) (pe_call (ok_copied T) (hr.mono (by decide)) (by rfl) T.g_copied T.F_copied.kp T.b_copied .nil pass0 (pa_cons (pe_fld (pv 0) rfl) pa_nil)) rfl)
      (pss_cons (ps_fld (pv 1) (pe_call (ok_copied T) (hr.mono (by decide)) (by rfl) T.g_copied T.F_copied.kp T.b_copied .nil pass0 (pa_cons (pe_fld (pv 0) rfl) pa_nil)) rfl)
      (pss_cons (ps_fld (pv 1) (pe_callTy call_dictD (by rfl) T.z_dict boot_dict (pa_cons (pe_fld (pv 0) rfl) pa_nil)) rfl)
      (pss_one (ps_ret (pv 1))))))), ?_⟩
    (dsimp only [cxOf, Cx.nox, Cx.wish, L2.start, List.map, List.length, List.replicate, List.cons_append, List.nil_append, List.append_eq, Nat.reduceSub, Nat.reduceAdd])
    walk_at "my_rd"
    refine q_fldK h1 T.cl_Sheet T.n_Sheet_config h2 ?_
    walk_at "my_rd"
    refine q_fldK h1 T.cl_Sheet T.n_Sheet_side h3 ?_
    walk_at "my_rd"
    intro y dy ny ndy hne
    have smM : Same H (upd (upd H dy (.own y)) y (.ins T.C_Sheet dy [])) := Same.up (Same.up (Same.refl _) ndy) (upd_free hne.symm ny)
    refine ⟨y, dy, S.cf, g, c, S.side, rfl, upd_same, hC.same smM, hc, fun H1 S1 hS1 e1 e2 _ _ _ hfr kp1 => ⟨rfl, ?_⟩⟩
    have sm1 : Same H H1 := fun b o q => kp1 b o (smM _ _ q) (ne_of_none q ny)
    clear smM kp1 hfr
    obtain ⟨dz, gs, g1, g2, g3, g4, g5, g6, g7, g8⟩ := hS1.ex
    walk_at "my_rd"
    refine q_fldK (sm1 _ _ h1) T.cl_Sheet T.n_Sheet_balances h4 ?_
    walk_at "my_rd"
    refine ⟨S.ba, S.bal, S.bs, rfl, hS.b.same sm1, hl1, hn1, fun d1 ds1 H2 nd1 hT1 hf1 sm2 => ?_⟩
    have sm12 := Same.trans sm1 sm2
    walk_at "my_rd"
    refine q_fputK (sm2 _ _ g1) T.cl_Sheet T.n_Sheet_balances (by omega) ?_
    walk_at "my_rd"
    generalize hH3 : upd H2 y _ = H3
    have hy3 : H3 y = some (.ins T.C_Sheet dz (putF "_balances" (.ref d1) gs)) := by rw [← hH3]; exact upd_same
    have kp23 : Kp y H2 H3 := by rw [← hH3]; exact Kp.upd Kp.refl
    have smx3 : Same H H3 := fun b o q => kp23 b o (sm12 _ _ q) (ne_of_none q ny)
    clear hH3
    refine q_fldK (smx3 _ _ h1) T.cl_Sheet T.n_Sheet_bonds h5 ?_
    walk_at "my_rd"
    refine ⟨S.bo, S.bon, S.ds, rfl, hS.d.same smx3, hl2, hn2, fun d2 ds2 H4 nd2 hT2 hf2 sm4 => ?_⟩
    walk_at "my_rd"
    refine q_fputK (sm4 _ _ hy3) T.cl_Sheet T.n_Sheet_bonds (Nat.lt_of_le_of_lt (q_fldlen (n := 5) g8) (by decide)) ?_
    walk_at "my_rd"
    generalize hH5 : upd H4 y _ = H5
    have hy5 : H5 y = some (.ins T.C_Sheet dz (putF "_bonds" (.ref d2) (putF "_balances" (.ref d1) gs))) := by rw [← hH5]; exact upd_same
    have kp45 : Kp y H4 H5 := by rw [← hH5]; exact Kp.upd Kp.refl
    have smx5 : Same H H5 := fun b o q => kp45 b o (sm4 _ _ (smx3 _ _ q)) (ne_of_none q ny)
    clear hH5
    refine q_fldK (smx5 _ _ h1) T.cl_Sheet T.n_Sheet_vaults h6 ?_
    walk_at "my_rd"
    refine ⟨S.va, rowK S.vau, rfl, .inl (smx5 _ _ hS.v), fun d3 nd3 => ?_⟩
    walk_at "my_rd"
    refine q_fputK (upd_new nd3 hy5) T.cl_Sheet T.n_Sheet_vaults (Nat.lt_of_le_of_lt (q_fldlen (n := 6) (q_fldlen (n := 5) g8)) (by decide)) ?_
    walk_at "my_rd"
    generalize hH6 : upd (upd H5 d3 _) y _ = H6
    have n3y : d3 ≠ y := (ne_of_none hy5 nd3).symm
    have hy6 : H6 y = some (.ins T.C_Sheet dz (putF "_vaults" (.ref d3) (putF "_bonds" (.ref d2) (putF "_balances" (.ref d1) gs)))) := by rw [← hH6]; exact upd_same
    have hv6 : H6 d3 = some (.dK (rowK S.vau)) := by rw [← hH6]; exact upd_other n3y upd_same
    have kp56 : Kp y H5 H6 := by rw [← hH6]; exact Kp.upd (Kp.new Kp.refl nd3)
    clear hH6
    have kp46 : Kp y H4 H6 := Kp.trans kp45 kp56
    have kp25 : Kp y H2 H5 := Kp.trans kp23 (Kp.trans (Same.kp sm4) kp45)
    have hy2 := sm2 _ _ g1
    have hy4 := sm4 _ _ hy3
    refine k y H6 ⟨S.cf, S.side, d1, d2, d3, S.bal, S.bon, S.vau, ds1, ds2⟩ ny ⟨⟨dz, _, hy6, ?_, ?_, ?_, ?_, ?_, ?_, ?_⟩, hT1.kp hy2 (Kp.trans kp25 kp56), hT2.kp hy4 kp46, hv6, ?_, ?_, ?_⟩ rfl rfl rfl rfl rfl ?_ (fun b o q => kp56 b o (smx5 _ _ q) (ne_of_none q ny))
    · rw [lookup_putF, if_neg (by decide +kernel), lookup_putF, if_neg (by decide +kernel), lookup_putF, if_neg (by decide +kernel), g2, e1]
    · rw [lookup_putF, if_neg (by decide +kernel), lookup_putF, if_neg (by decide +kernel), lookup_putF, if_neg (by decide +kernel), g3, e2]
    · (repeat first | rfl | rw [lookup_putF, if_pos rfl] | rw [lookup_putF, if_neg (by decide +kernel)])
    · (repeat first | rfl | rw [lookup_putF, if_pos rfl] | rw [lookup_putF, if_neg (by decide +kernel)])
    · (repeat first | rfl | rw [lookup_putF, if_pos rfl] | rw [lookup_putF, if_neg (by decide +kernel)])
    · intro m hm
      have hne : ∀ z ∈ shNames, ¬ m = z := fun z hz e => hm (e ▸ hz)
      rw [lookup_putF, if_neg (hne _ (by decide +kernel)), lookup_putF, if_neg (hne _ (by decide +kernel)), lookup_putF, if_neg (hne _ (by decide +kernel))]
      exact g7 m hm
    · rw [putF_len (z := .ref S1.va) (by rw [lookup_putF, if_neg (by decide +kernel), lookup_putF, if_neg (by decide +kernel)]; exact g6), putF_len (z := .ref S1.bo) (by rw [lookup_putF, if_neg (by decide +kernel)]; exact g5), putF_len g4]
      exact g8
    · intro b hb m
      obtain ⟨_, q⟩ := (hT1.kp hy2 kp23).free hb
      rcases List.mem_cons.mp m with e | e
      · rw [e, nd2] at q; cases q
      · rw [hf2 b e] at q; cases q
    · intro m
      obtain ⟨_, q⟩ := (hT1.kp hy2 kp25).free m
      have nd3' : H5 d3 = none := nd3
      rw [nd3'] at q; cases q
    · intro m
      obtain ⟨_, q⟩ := (hT2.kp hy4 kp45).free m
      have nd3' : H5 d3 = none := nd3
      rw [nd3'] at q; cases q
    · intro b hb
      rcases foot_of hb with m | m | m
      · rcases List.mem_cons.mp m with e | e
        · subst e; exact Same.free sm1 nd1
        · exact Same.free sm1 (hf1 b e)
      · rcases List.mem_cons.mp m with e | e
        · subst e; exact Same.free smx3 nd2
        · exact Same.free smx3 (hf2 b e)
      · subst m; exact Same.free smx5 nd3
end

local macro_rules | `(tactic| walk_at "my_rd") => `(tactic| (repeat first
  | with_reducible refine q_tCons ?_
  | ((with_reducible apply q_var); (focus (exact rfl)))
  | with_reducible refine q_c ?_
  | ((with_reducible apply q_nxE); (focus (with_reducible exact rfl)))
  | with_reducible refine q_bK ?_
  | with_reducible refine q_call ?_
  | with_reducible refine q_callK ?_
  | with_reducible refine q_tNil ?_
  | with_reducible refine q_cb ?_
  | with_reducible refine q_seq ?_
  | with_reducible refine q_asg ?_
  | with_reducible refine q_gName ?_
  | with_reducible refine q_op ?_
  | with_reducible refine q_test ?_
  | with_reducible refine q_tB ?_
  | with_reducible refine q_ifS ?_
  | with_reducible refine q_ret ?_
  | ((with_reducible apply q_rtE); (focus (with_reducible exact rfl)))
  | with_reducible refine q_next ?_
  | with_reducible refine q_ifF ?_
  | with_reducible refine q_ifT ?_
  | with_reducible refine q_drop ?_
  | with_reducible refine q_and ?_
  | with_reducible refine q_or ?_
  | with_reducible refine q_andT ?_
  | with_reducible refine q_andF ?_
  | with_reducible refine q_orF ?_
  | with_reducible refine q_orT ?_
  | with_reducible refine q_andV ?_
  | with_reducible refine q_andVT ?_
  | with_reducible refine q_andVF ?_
  | with_reducible refine q_orV ?_
  | with_reducible refine q_gCons ?_
  | with_reducible refine q_gNil ?_
  | with_reducible refine q_tup ?_
  | with_reducible refine q_lst ?_
  | with_reducible refine q_not ?_
  | with_reducible refine q_notKT ?_
  | with_reducible refine q_notKF ?_
  | with_reducible refine q_I0 ?_
  | with_reducible refine q_eqI ?_
  | with_reducible refine q_neI ?_
  | ((with_reducible refine q_I ?_ ?_); first | decide | omega | exact ⟨by omega, by omega⟩ | exact ⟨by decide, by decide⟩ | exact .inl ⟨by omega, by omega⟩ | exact .inr ⟨by omega, by omega⟩ | exact .inr ⟨by decide, by decide⟩)
  | with_reducible refine q_eqS ?_
  | with_reducible refine q_neS ?_
  | with_reducible refine q_brk ?_
  | with_reducible refine q_ct ?_
  | ((with_reducible apply q_bkE); (focus (with_reducible exact rfl)))
  | ((with_reducible apply q_cnE); (focus (with_reducible exact rfl)))
  | with_reducible refine q_retN ?_
  | with_reducible refine q_gSub ?_
  | with_reducible refine q_for ?_
  | with_reducible refine q_iList ?_
  | with_reducible refine q_iTup ?_
  | with_reducible refine q_iRng1 ?_
  | with_reducible refine q_notK ?_
  | with_reducible refine q_orVT ?_
  | with_reducible refine q_orVF ?_
  | with_reducible refine q_notV ?_
  | with_reducible refine q_notVK ?_
  | with_reducible refine q_ifE ?_
  | with_reducible refine q_ifET ?_
  | with_reducible refine q_ifEF ?_
  | with_reducible refine q_yes ?_
  | with_reducible refine q_un ?_
  | with_reducible refine q_rU ?_
  | with_reducible refine q_abs ?_
  | with_reducible refine q_int1 ?_
  | with_reducible refine q_bm ?_
  | with_reducible refine q_bm0 ?_
  | with_reducible refine q_lc ?_
  | with_reducible refine q_keepT ?_
  | with_reducible refine q_keepF ?_
  | ((with_reducible apply q_aug); (focus (exact rfl)))
  | with_reducible refine q_ipI ?_
  | with_reducible refine q_chain ?_
  | with_reducible refine q_pairC ?_
  | with_reducible refine q_pairsK ?_
  | with_reducible refine q_pairN ?_
  | with_reducible refine q_fld ?_
  | with_reducible refine q_sFld ?_
  | with_reducible refine q_meth ?_
  | with_reducible refine q_makeK ?_
  | with_reducible refine q_isBl ?_
  | with_reducible refine q_notBl ?_
  | with_reducible refine q_sl ?_
  | with_reducible refine q_noPart ?_
  | with_reducible refine q_part ?_
  | with_reducible refine q_partK ?_
  | ((with_reducible apply q_mulStr); (focus (decide +kernel)))
  | with_reducible refine q_chT ?_
  | with_reducible refine q_chF ?_
  | with_reducible refine q_ord ?_
  | with_reducible refine q_iStr0 ?_
  | with_reducible refine q_iStr ?_
  | with_reducible refine q_tDIn ?_
  | with_reducible refine q_tDNotIn ?_
  | with_reducible refine q_tDGet ?_
  | with_reducible refine q_tDGet2 ?_
  | with_reducible refine q_tDGet1 ?_
  | with_reducible refine q_tDSetd ?_
  | ((with_reducible apply q_dG2a); (focus ((repeat first | (with_reducible exact upd_same) | (with_reducible assumption) | (with_reducible apply upd_new (by assumption)) | (with_reducible apply upd_other (by first | assumption | exact Ne.symm (by assumption))) | (with_reducible refine' Kp.get (by assumption) ?_ (by first | assumption | exact Ne.symm (by assumption))) | (with_reducible apply Same.get (by assumption))); done)))
  | ((with_reducible apply q_dSda); (focus ((repeat first | (with_reducible exact upd_same) | (with_reducible assumption) | (with_reducible apply upd_new (by assumption)) | (with_reducible apply upd_other (by first | assumption | exact Ne.symm (by assumption))) | (with_reducible refine' Kp.get (by assumption) ?_ (by first | assumption | exact Ne.symm (by assumption))) | (with_reducible apply Same.get (by assumption))); done)))
  | with_reducible refine q_sDPut ?_
  | ((with_reducible apply q_dInS); (focus ((repeat first | (with_reducible exact upd_same) | (with_reducible assumption) | (with_reducible apply upd_new (by assumption)) | (with_reducible apply upd_other (by first | assumption | exact Ne.symm (by assumption))) | (with_reducible refine' Kp.get (by assumption) ?_ (by first | assumption | exact Ne.symm (by assumption))) | (with_reducible apply Same.get (by assumption))); done)))
  | ((with_reducible apply q_dNInS); (focus ((repeat first | (with_reducible exact upd_same) | (with_reducible assumption) | (with_reducible apply upd_new (by assumption)) | (with_reducible apply upd_other (by first | assumption | exact Ne.symm (by assumption))) | (with_reducible refine' Kp.get (by assumption) ?_ (by first | assumption | exact Ne.symm (by assumption))) | (with_reducible apply Same.get (by assumption))); done)))
  | ((with_reducible apply q_dInI); (focus ((repeat first | (with_reducible exact upd_same) | (with_reducible assumption) | (with_reducible apply upd_new (by assumption)) | (with_reducible apply upd_other (by first | assumption | exact Ne.symm (by assumption))) | (with_reducible refine' Kp.get (by assumption) ?_ (by first | assumption | exact Ne.symm (by assumption))) | (with_reducible apply Same.get (by assumption))); done)))
  | ((with_reducible apply q_dNInI); (focus ((repeat first | (with_reducible exact upd_same) | (with_reducible assumption) | (with_reducible apply upd_new (by assumption)) | (with_reducible apply upd_other (by first | assumption | exact Ne.symm (by assumption))) | (with_reducible refine' Kp.get (by assumption) ?_ (by first | assumption | exact Ne.symm (by assumption))) | (with_reducible apply Same.get (by assumption))); done)))
  | ((with_reducible apply q_bmL); (focus ((repeat first | (with_reducible exact upd_same) | (with_reducible assumption) | (with_reducible apply upd_new (by assumption)) | (with_reducible apply upd_other (by first | assumption | exact Ne.symm (by assumption))) | (with_reducible refine' Kp.get (by assumption) ?_ (by first | assumption | exact Ne.symm (by assumption))) | (with_reducible apply Same.get (by assumption))); done)))
  | ((with_reducible apply q_bmL0); (focus ((repeat first | (with_reducible exact upd_same) | (with_reducible assumption) | (with_reducible apply upd_new (by assumption)) | (with_reducible apply upd_other (by first | assumption | exact Ne.symm (by assumption))) | (with_reducible refine' Kp.get (by assumption) ?_ (by first | assumption | exact Ne.symm (by assumption))) | (with_reducible apply Same.get (by assumption))); done)))
  | ((with_reducible apply q_ixLt); (focus ((repeat first | (with_reducible exact upd_same) | (with_reducible assumption) | (with_reducible apply upd_new (by assumption)) | (with_reducible apply upd_other (by first | assumption | exact Ne.symm (by assumption))) | (with_reducible refine' Kp.get (by assumption) ?_ (by first | assumption | exact Ne.symm (by assumption))) | (with_reducible apply Same.get (by assumption))); done)); (focus (exact rfl)))
  | ((with_reducible apply q_ixTt); (focus ((repeat first | (with_reducible exact upd_same) | (with_reducible assumption) | (with_reducible apply upd_new (by assumption)) | (with_reducible apply upd_other (by first | assumption | exact Ne.symm (by assumption))) | (with_reducible refine' Kp.get (by assumption) ?_ (by first | assumption | exact Ne.symm (by assumption))) | (with_reducible apply Same.get (by assumption))); done)); (focus (exact rfl)))
  | ((with_reducible apply q_lenLt); (focus ((repeat first | (with_reducible exact upd_same) | (with_reducible assumption) | (with_reducible apply upd_new (by assumption)) | (with_reducible apply upd_other (by first | assumption | exact Ne.symm (by assumption))) | (with_reducible refine' Kp.get (by assumption) ?_ (by first | assumption | exact Ne.symm (by assumption))) | (with_reducible apply Same.get (by assumption))); done)))
  | ((with_reducible apply q_lenTt); (focus ((repeat first | (with_reducible exact upd_same) | (with_reducible assumption) | (with_reducible apply upd_new (by assumption)) | (with_reducible apply upd_other (by first | assumption | exact Ne.symm (by assumption))) | (with_reducible refine' Kp.get (by assumption) ?_ (by first | assumption | exact Ne.symm (by assumption))) | (with_reducible apply Same.get (by assumption))); done)))
  | ((with_reducible apply q_append); (focus ((repeat first | (with_reducible exact upd_same) | (with_reducible assumption) | (with_reducible apply upd_new (by assumption)) | (with_reducible apply upd_other (by first | assumption | exact Ne.symm (by assumption))) | (with_reducible refine' Kp.get (by assumption) ?_ (by first | assumption | exact Ne.symm (by assumption))) | (with_reducible apply Same.get (by assumption))); done)); (focus ((first | (exact Nat.lt_of_ble_eq_true rfl) | (simp only [List.length_append, List.length_cons, List.length_nil, List.length_map]; exact small1000 (by omega))))))
  | ((with_reducible apply q_setL); (focus ((repeat first | (with_reducible exact upd_same) | (with_reducible assumption) | (with_reducible apply upd_new (by assumption)) | (with_reducible apply upd_other (by first | assumption | exact Ne.symm (by assumption))) | (with_reducible refine' Kp.get (by assumption) ?_ (by first | assumption | exact Ne.symm (by assumption))) | (with_reducible apply Same.get (by assumption))); done)); (focus (exact rfl)))
  | with_reducible refine q_ifNT ?_
  | with_reducible refine q_ifNF ?_
  | with_reducible refine q_andNT ?_
  | with_reducible refine q_andNF ?_
  | with_reducible refine q_orNT ?_
  | with_reducible refine q_orNF ?_
  | with_reducible refine q_bKNT ?_
  | with_reducible refine q_bKNF ?_
  | with_reducible refine q_tNGet ?_
  | with_reducible refine q_tNIn ?_
  | with_reducible refine q_sNPut ?_
  | with_reducible refine q_sFldAug ?_
  | with_reducible refine q_sDAug ?_
  | with_reducible refine q_sDDel ?_
  | with_reducible refine q_forX ?_
  | with_reducible refine q_tMake ?_
  | ((with_reducible apply q_dG1a); (focus ((repeat first | (with_reducible exact upd_same) | (with_reducible assumption) | (with_reducible apply upd_new (by assumption)) | (with_reducible apply upd_other (by first | assumption | exact Ne.symm (by assumption))) | (with_reducible refine' Kp.get (by assumption) ?_ (by first | assumption | exact Ne.symm (by assumption))) | (with_reducible apply Same.get (by assumption))); done)))))
/-! states -/
structure St0 where
  cf : Addr
  side : Str
  sh : Addr
  S : Sh
  height : Int
  stops : Int
  stopped : Bool
  l1 : Addr
  l2 : Addr
  l3 : Addr
  e1 : Addr
  e2 : Addr
  e3 : Addr
  sets : List V
  trs : List V
  dels : List V
  ret : List (Key × V)
  tak : List (Key × V)
  wai : List (Key × V)
def St0.own (M : St0) : List Addr := [M.l1, M.l2, M.l3, M.e1, M.e2, M.e3]
def St0.all (M : St0) : List Addr := M.sh :: M.own ++ M.S.foot
def stNames : List Str := ["_config", "_side", "_sheet", "_height", "_sets", "_stops", "_stopped", "_transfers", "_returned", "_taken", "_waiting", "_deliveries"]
/-- a state but for its sheet -/
structure StR (C : Addr) (H : Hp) (x : Addr) (M : St0) : Prop where
  ex : ∃ dx fs, H x = some (.ins C dx fs) ∧ fs.lookup ("_config" : Str) = some (.ref M.cf) ∧ fs.lookup ("_side" : Str) = some (.str M.side) ∧ fs.lookup ("_sheet" : Str) = some (.ref M.sh) ∧ fs.lookup ("_height" : Str) = some (.int M.height) ∧
    fs.lookup ("_sets" : Str) = some (.ref M.l1) ∧ fs.lookup ("_stops" : Str) = some (.int M.stops) ∧ fs.lookup ("_stopped" : Str) = some (.bl M.stopped) ∧ fs.lookup ("_transfers" : Str) = some (.ref M.l2) ∧ fs.lookup ("_returned" : Str) = some (.ref M.e1) ∧
    fs.lookup ("_taken" : Str) = some (.ref M.e2) ∧ fs.lookup ("_waiting" : Str) = some (.ref M.e3) ∧ fs.lookup ("_deliveries" : Str) = some (.ref M.l3) ∧ (∀ m : Str, m ∉ stNames → fs.lookup m = none) ∧ fs.length ≤ 22
  a1 : H M.l1 = some (.lst M.sets)
  a2 : H M.l2 = some (.lst M.trs)
  a3 : H M.l3 = some (.lst M.dels)
  b1 : H M.e1 = some (.dK M.ret)
  b2 : H M.e2 = some (.dK M.tak)
  b3 : H M.e3 = some (.dK M.wai)
  s1 : M.l1 ≠ M.l2 ∧ M.l1 ≠ M.l3 ∧ M.l2 ≠ M.l3
  s2 : M.e1 ≠ M.e2 ∧ M.e1 ≠ M.e3 ∧ M.e2 ≠ M.e3
structure StAt (C Cs : Addr) (H : Hp) (x : Addr) (M : St0) : Prop where
  r : StR C H x M
  sh : ShAt Cs H M.sh M.S
  cf : M.S.cf = M.cf
  nx : x ≠ M.sh
  sf : ∀ b ∈ M.S.foot, b ≠ M.e1 ∧ b ≠ M.e2 ∧ b ≠ M.e3
theorem StR.keep {C : Addr} {H H' : Hp} {x : Addr} {M : St0} (h : StR C H x M) (e : ∀ b, b = x ∨ b ∈ M.own → ∀ o, H b = some o → H' b = some o) : StR C H' x M := by
  obtain ⟨dx, fs, q, r⟩ := h.ex
  exact ⟨⟨dx, fs, e _ (.inl rfl) _ q, r⟩, e _ (.inr (by simp [St0.own])) _ h.a1, e _ (.inr (by simp [St0.own])) _ h.a2, e _ (.inr (by simp [St0.own])) _ h.a3, e _ (.inr (by simp [St0.own])) _ h.b1, e _ (.inr (by simp [St0.own])) _ h.b2, e _ (.inr (by simp [St0.own])) _ h.b3, h.s1, h.s2⟩
theorem all_own {M : St0} {b : Addr} (h : b ∈ M.own) : b ∈ M.all := List.mem_append.mpr (.inl (List.mem_cons_of_mem _ h))
theorem all_sh {M : St0} : M.sh ∈ M.all := List.mem_append.mpr (.inl List.mem_cons_self)
theorem all_foot {M : St0} {b : Addr} (h : b ∈ M.S.foot) : b ∈ M.all := List.mem_append.mpr (.inr h)
theorem all_of {M : St0} {b : Addr} (h : b ∈ M.all) : b = M.sh ∨ b ∈ M.own ∨ b ∈ M.S.foot := by
  rcases List.mem_append.mp h with m | m
  · rcases List.mem_cons.mp m with m | m
    · exact .inl m
    · exact .inr (.inl m)
  · exact .inr (.inr m)
theorem StAt.keep {C Cs : Addr} {H H' : Hp} {x : Addr} {M : St0} (h : StAt C Cs H x M) (e : ∀ b, b = x ∨ b ∈ M.all → ∀ o, H b = some o → H' b = some o) : StAt C Cs H' x M :=
  ⟨h.r.keep fun b hb o q => e b (hb.imp_right all_own) o q, h.sh.keep (fun o q => e _ (.inr all_sh) o q) (fun b hb o q => e _ (.inr (all_foot hb)) o q), h.cf, h.nx, h.sf⟩
theorem StAt.same {C Cs : Addr} {H H' : Hp} {x : Addr} {M : St0} (h : StAt C Cs H x M) (e : Same H H') : StAt C Cs H' x M := h.keep fun b _ o q => e b o q
theorem StAt.some_ {C Cs : Addr} {H : Hp} {x : Addr} {M : St0} (h : StAt C Cs H x M) {b : Addr} (m : b = x ∨ b ∈ M.all) : ∃ o, H b = some o := by
  rcases m with rfl | m
  · obtain ⟨dx, fs, q, _⟩ := h.r.ex; exact ⟨_, q⟩
  · rcases all_of m with rfl | m | m
    · obtain ⟨dx, fs, q, _⟩ := h.sh.ex; exact ⟨_, q⟩
    · simp only [St0.own, List.mem_cons, List.not_mem_nil, or_false] at m
      rcases m with rfl | rfl | rfl | rfl | rfl | rfl
      · exact ⟨_, h.r.a1⟩
      · exact ⟨_, h.r.a2⟩
      · exact ⟨_, h.r.a3⟩
      · exact ⟨_, h.r.b1⟩
      · exact ⟨_, h.r.b2⟩
      · exact ⟨_, h.r.b3⟩
    · obtain ⟨kvs, q⟩ := h.sh.footK m; exact ⟨_, q⟩
/-- what a sheet of a state keeps -/
structure ShG (S : Sh) : Prop where
  b : S.bal.length ≤ 999
  d : S.bon.length ≤ 999
  nb : (S.bal.map (·.1)).Nodup
  nd : (S.bon.map (·.1)).Nodup
/-- equal in what they hold -/
structure StEq (M M' : St0) : Prop where
  cf : M'.cf = M.cf
  side : M'.side = M.side
  height : M'.height = M.height
  stops : M'.stops = M.stops
  stopped : M'.stopped = M.stopped
  sets : M'.sets = M.sets
  trs : M'.trs = M.trs
  dels : M'.dels = M.dels
  ret : M'.ret = M.ret
  tak : M'.tak = M.tak
  wai : M'.wai = M.wai
  ss : M'.S.side = M.S.side
  bal : M'.S.bal = M.S.bal
  bon : M'.S.bon = M.S.bon
  vau : M'.S.vau = M.S.vau
theorem StEq.g {M M' : St0} (h : StEq M M') (g : ShG M.S) : ShG M'.S := ⟨by rw [h.bal]; exact g.b, by rw [h.bon]; exact g.d, by rw [h.bal]; exact g.nb, by rw [h.bon]; exact g.nd⟩
def sp_stI (C Cc : Addr) : Sp := fun vs H Q _ => ∃ (x dx cf g sh : Addr) (c : Parts) (sd : Str) (S : Sh), vs = [.ref x, .ref cf, .str sd, .ref sh] ∧ H x = some (.ins C dx []) ∧ CfgAt Cc c g H cf ∧
  ∀ (H' : Hp) (l1 l2 l3 e1 e2 e3 : Addr), StR C H' x ⟨cf, sd, sh, S, 0, 0, false, l1, l2, l3, e1, e2, e3, [.ref g], [], [], [], [], []⟩ → (∀ b ∈ [l1, l2, l3, e1, e2, e3], H b = none) → Kp x H H' → Q .non H'
def sp_stC (C Cs Cc : Addr) : Sp := fun vs H Q _ => ∃ (x g : Addr) (M : St0) (c : Parts), vs = [.ref x] ∧ StAt C Cs H x M ∧ CfgAt Cc c g H M.cf ∧ c.Ok ∧ ShG M.S ∧
  ∀ (y : Addr) (H' : Hp) (M' : St0), H y = none → StAt C Cs H' y M' → StEq M M' → (∀ b ∈ M'.all, H b = none) → Same H H' → Q (.ref y) H'
def sp_stR (C Cs : Addr) : Sp := fun vs H Q _ => ∃ (x : Addr) (M : St0), vs = [.ref x] ∧ StAt C Cs H x M ∧ ∀ H', StAt C Cs H' x { M with height := M.height + 1 } → Kp x H H' → Q .non H'
def sp_open (C Cs Cc : Addr) : Sp := fun vs H Q _ => ∃ (cf g : Addr) (c : Parts) (sd : Str), vs = [.ref cf, .str sd] ∧ CfgAt Cc c g H cf ∧ c.Ok ∧
  ∀ (y : Addr) (H' : Hp) (M : St0), H y = none → StAt C Cs H' y M → (M.cf = cf ∧ M.side = sd ∧ M.height = 0 ∧ M.stops = 0 ∧ M.stopped = false ∧ M.sets = [.ref g] ∧ M.trs = [] ∧ M.dels = [] ∧ M.ret = [] ∧ M.tak = [] ∧ M.wai = [] ∧ M.S.side = sd ∧ M.S.bal = openT (c.bals.filter fun b => decide (c.homeOf b.tok = sd)) ∧ M.S.bon = [] ∧ M.S.vau = []) → (∀ b ∈ M.all, H b = none) → Same H H' → Q (.ref y) H'
def sp_nh (C Cs Cc : Addr) : Sp := fun vs H Q _ => ∃ (x g : Addr) (M : St0) (c : Parts), vs = [.ref x] ∧ StAt C Cs H x M ∧ CfgAt Cc c g H M.cf ∧ c.Ok ∧ ShG M.S ∧
  ∀ (y : Addr) (H' : Hp) (M' : St0), H y = none → StAt C Cs H' y M' → StEq { M with height := M.height + 1 } M' → (∀ b ∈ M'.all, H b = none) → Same H H' → Q (.ref y) H'
theorem no_st : ("copy" : Str) ∉ stNames ∧ ("rise" : Str) ∉ stNames ∧ ("copy" : Str) ∉ shNames ∧ ("guards" : Str) ∉ cfgNames := by decide +kernel
section
variable {P : Program} {w : World} {K : PySem.W.Frag} {mg : Str → Option Value} {base : Heap}

theorem ok_State_init (T : Txt K mg) : FnOk P w K mg base CX0 2 T.f_State_init T.d_State_init ["self", "config", "side", "sheet"] (sp_stI T.C_State T.C_Config) := by
  refine T.F_State_init.ok sc_State_init (fun vs H Q E h => ?_) (fun cdv A outer s H vs Q E hr h => ?_)
  · obtain ⟨x, dx, cf, g, sh, c, sd, S, rfl, _⟩ := h; rfl
  · obtain ⟨x, dx, cf, g, sh, c, sd, S, rfl, hx0, hC, k⟩ := h
    refine ⟨_, (pss_cons (ps_fld (pv 0) (pv 1) rfl)
      (pss_cons (ps_fld (pv 0) (pv 2) rfl)
      (pss_cons (ps_fld (pv 0) (pv 3) rfl)
      (pss_cons (ps_fld (pv 0) pe_int rfl)
      (pss_cons (ps_fld (pv 0) (pe_lst (pa_cons (pe_meth0 (pv 1) T.cl_Config T.m_Config_guards (ok_Config_guards T) (hr.mono (by decide)) T.b_Config_guards .nil pass0) pa_nil)) rfl)
      (pss_cons (ps_fld (pv 0) pe_int rfl)
      (pss_cons (ps_fld (pv 0) pe_bl rfl)
      (pss_cons (ps_fld (pv 0) (pe_lst pa_nil) rfl)
      (pss_cons (ps_fld (pv 0) pe_dnewK rfl)
      (pss_cons (ps_fld (pv 0) pe_dnewK rfl)
      (pss_cons (ps_fld (pv 0) pe_dnewK rfl)
      (pss_one (ps_fld (pv 0) (pe_lst pa_nil) rfl))))))))))))), ?_⟩
    have kp0 : Kp x H H := Kp.refl
    have len0 : ([] : List (Str × V)).length ≤ 0 := Nat.le_refl _
    have hh0 : H x = some (.ins T.C_State dx []) := hx0
    (dsimp only [cxOf, Cx.nox, Cx.wish, L2.start, List.map, List.length, List.replicate, List.cons_append, List.nil_append, List.append_eq, Nat.reduceSub, Nat.reduceAdd])
    walk_at "my_rd"
    refine q_fputK hx0 T.cl_State T.n_State_config (Nat.lt_of_le_of_lt len0 (by decide)) ?_
    have len1 : ((putF "_config" (.ref cf) []) : List (Str × V)).length ≤ 1 := q_fldlen len0
    have hx1 : (upd (H) x (.ins T.C_State dx (putF "_config" (.ref cf) []))) x = some (.ins T.C_State dx (putF "_config" (.ref cf) [])) := upd_same
    have kk1 : Kp x (H) (upd (H) x (.ins T.C_State dx (putF "_config" (.ref cf) []))) := Kp.upd Kp.refl
    have kp1 := Kp.trans kp0 kk1
    generalize (upd (H) x (.ins T.C_State dx (putF "_config" (.ref cf) []))) = H1 at hx1 kk1 kp1 ⊢
    clear kk1
    walk_at "my_rd"
    refine q_fputK hx1 T.cl_State T.n_State_side (Nat.lt_of_le_of_lt len1 (by decide)) ?_
    have len2 : ((putF "_side" (.str sd) (putF "_config" (.ref cf) [])) : List (Str × V)).length ≤ 2 := q_fldlen len1
    have hx2 : (upd (H1) x (.ins T.C_State dx (putF "_side" (.str sd) (putF "_config" (.ref cf) [])))) x = some (.ins T.C_State dx (putF "_side" (.str sd) (putF "_config" (.ref cf) []))) := upd_same
    have kk2 : Kp x (H1) (upd (H1) x (.ins T.C_State dx (putF "_side" (.str sd) (putF "_config" (.ref cf) [])))) := Kp.upd Kp.refl
    have kp2 := Kp.trans kp1 kk2
    generalize (upd (H1) x (.ins T.C_State dx (putF "_side" (.str sd) (putF "_config" (.ref cf) [])))) = H2 at hx2 kk2 kp2 ⊢
    clear kk2
    walk_at "my_rd"
    refine q_fputK hx2 T.cl_State T.n_State_sheet (Nat.lt_of_le_of_lt len2 (by decide)) ?_
    have len3 : ((putF "_sheet" (.ref sh) (putF "_side" (.str sd) (putF "_config" (.ref cf) []))) : List (Str × V)).length ≤ 3 := q_fldlen len2
    have hx3 : (upd (H2) x (.ins T.C_State dx (putF "_sheet" (.ref sh) (putF "_side" (.str sd) (putF "_config" (.ref cf) []))))) x = some (.ins T.C_State dx (putF "_sheet" (.ref sh) (putF "_side" (.str sd) (putF "_config" (.ref cf) [])))) := upd_same
    have kk3 : Kp x (H2) (upd (H2) x (.ins T.C_State dx (putF "_sheet" (.ref sh) (putF "_side" (.str sd) (putF "_config" (.ref cf) []))))) := Kp.upd Kp.refl
    have kp3 := Kp.trans kp2 kk3
    generalize (upd (H2) x (.ins T.C_State dx (putF "_sheet" (.ref sh) (putF "_side" (.str sd) (putF "_config" (.ref cf) []))))) = H3 at hx3 kk3 kp3 ⊢
    clear kk3
    walk_at "my_rd"
    refine q_fputK hx3 T.cl_State T.n_State_height (Nat.lt_of_le_of_lt len3 (by decide)) ?_
    have len4 : ((putF "_height" (.int 0) (putF "_sheet" (.ref sh) (putF "_side" (.str sd) (putF "_config" (.ref cf) [])))) : List (Str × V)).length ≤ 4 := q_fldlen len3
    have hx4 : (upd (H3) x (.ins T.C_State dx (putF "_height" (.int 0) (putF "_sheet" (.ref sh) (putF "_side" (.str sd) (putF "_config" (.ref cf) [])))))) x = some (.ins T.C_State dx (putF "_height" (.int 0) (putF "_sheet" (.ref sh) (putF "_side" (.str sd) (putF "_config" (.ref cf) []))))) := upd_same
    have kk4 : Kp x (H3) (upd (H3) x (.ins T.C_State dx (putF "_height" (.int 0) (putF "_sheet" (.ref sh) (putF "_side" (.str sd) (putF "_config" (.ref cf) [])))))) := Kp.upd Kp.refl
    have kp4 := Kp.trans kp3 kk4
    generalize (upd (H3) x (.ins T.C_State dx (putF "_height" (.int 0) (putF "_sheet" (.ref sh) (putF "_side" (.str sd) (putF "_config" (.ref cf) [])))))) = H4 at hx4 kk4 kp4 ⊢
    clear kk4
    walk_at "my_rd"
    have hC5 := CfgAt.kp hC hx0 kp4
    obtain ⟨dc, fc, _, _, _, _, hc1, _, _, _, _, _, _, _, hc9, _⟩ := id hC5.ex
    refine q_methK hc1 (hc9 _ no_st.2.2.2) fun R hR => ?_
    walk_at "my_rd"
    refine hR _ _ ⟨cf, g, c, rfl, hC5, ?_⟩
    clear hR hc1 hc9
    walk_at "my_rd"
    refine q_lstK (Nat.le_of_ble_eq_true rfl) fun l1 nl1 => ?_
    walk_at "my_rd"
    refine q_fputK (upd_new nl1 hx4) T.cl_State T.n_State_sets (Nat.lt_of_le_of_lt len4 (by decide)) ?_
    have len5 : ((putF "_sets" (.ref l1) (putF "_height" (.int 0) (putF "_sheet" (.ref sh) (putF "_side" (.str sd) (putF "_config" (.ref cf) []))))) : List (Str × V)).length ≤ 5 := q_fldlen len4
    have hx5 : (upd (upd H4 l1 (.lst [.ref g])) x (.ins T.C_State dx (putF "_sets" (.ref l1) (putF "_height" (.int 0) (putF "_sheet" (.ref sh) (putF "_side" (.str sd) (putF "_config" (.ref cf) []))))))) x = some (.ins T.C_State dx (putF "_sets" (.ref l1) (putF "_height" (.int 0) (putF "_sheet" (.ref sh) (putF "_side" (.str sd) (putF "_config" (.ref cf) [])))))) := upd_same
    have xl1 : l1 ≠ x := (ne_of_none hx4 nl1).symm
    have zl1 : H l1 = none := Kp.fresh kp4 hh0 nl1 xl1
    have kk5 : Kp x (H4) (upd (upd H4 l1 (.lst [.ref g])) x (.ins T.C_State dx (putF "_sets" (.ref l1) (putF "_height" (.int 0) (putF "_sheet" (.ref sh) (putF "_side" (.str sd) (putF "_config" (.ref cf) []))))))) := Kp.upd (Kp.new Kp.refl nl1)
    have cl1_5 : (upd (upd H4 l1 (.lst [.ref g])) x (.ins T.C_State dx (putF "_sets" (.ref l1) (putF "_height" (.int 0) (putF "_sheet" (.ref sh) (putF "_side" (.str sd) (putF "_config" (.ref cf) []))))))) l1 = some (.lst [.ref g]) := upd_other xl1 upd_same
    have kp5 := Kp.trans kp4 kk5
    generalize (upd (upd H4 l1 (.lst [.ref g])) x (.ins T.C_State dx (putF "_sets" (.ref l1) (putF "_height" (.int 0) (putF "_sheet" (.ref sh) (putF "_side" (.str sd) (putF "_config" (.ref cf) []))))))) = H5 at hx5 kk5 kp5 cl1_5 ⊢
    clear kk5
    walk_at "my_rd"
    refine q_fputK hx5 T.cl_State T.n_State_stops (Nat.lt_of_le_of_lt len5 (by decide)) ?_
    have len6 : ((putF "_stops" (.int 0) (putF "_sets" (.ref l1) (putF "_height" (.int 0) (putF "_sheet" (.ref sh) (putF "_side" (.str sd) (putF "_config" (.ref cf) [])))))) : List (Str × V)).length ≤ 6 := q_fldlen len5
    have hx6 : (upd (H5) x (.ins T.C_State dx (putF "_stops" (.int 0) (putF "_sets" (.ref l1) (putF "_height" (.int 0) (putF "_sheet" (.ref sh) (putF "_side" (.str sd) (putF "_config" (.ref cf) [])))))))) x = some (.ins T.C_State dx (putF "_stops" (.int 0) (putF "_sets" (.ref l1) (putF "_height" (.int 0) (putF "_sheet" (.ref sh) (putF "_side" (.str sd) (putF "_config" (.ref cf) []))))))) := upd_same
    have kk6 : Kp x (H5) (upd (H5) x (.ins T.C_State dx (putF "_stops" (.int 0) (putF "_sets" (.ref l1) (putF "_height" (.int 0) (putF "_sheet" (.ref sh) (putF "_side" (.str sd) (putF "_config" (.ref cf) [])))))))) := Kp.upd Kp.refl
    have cl1_6 := kk6 _ _ cl1_5 xl1
    have kp6 := Kp.trans kp5 kk6
    generalize (upd (H5) x (.ins T.C_State dx (putF "_stops" (.int 0) (putF "_sets" (.ref l1) (putF "_height" (.int 0) (putF "_sheet" (.ref sh) (putF "_side" (.str sd) (putF "_config" (.ref cf) [])))))))) = H6 at hx6 kk6 kp6 cl1_6 ⊢
    clear kk6
    walk_at "my_rd"
    refine q_fputK hx6 T.cl_State T.n_State_stopped (Nat.lt_of_le_of_lt len6 (by decide)) ?_
    have len7 : ((putF "_stopped" (.bl false) (putF "_stops" (.int 0) (putF "_sets" (.ref l1) (putF "_height" (.int 0) (putF "_sheet" (.ref sh) (putF "_side" (.str sd) (putF "_config" (.ref cf) []))))))) : List (Str × V)).length ≤ 7 := q_fldlen len6
    have hx7 : (upd (H6) x (.ins T.C_State dx (putF "_stopped" (.bl false) (putF "_stops" (.int 0) (putF "_sets" (.ref l1) (putF "_height" (.int 0) (putF "_sheet" (.ref sh) (putF "_side" (.str sd) (putF "_config" (.ref cf) []))))))))) x = some (.ins T.C_State dx (putF "_stopped" (.bl false) (putF "_stops" (.int 0) (putF "_sets" (.ref l1) (putF "_height" (.int 0) (putF "_sheet" (.ref sh) (putF "_side" (.str sd) (putF "_config" (.ref cf) [])))))))) := upd_same
    have kk7 : Kp x (H6) (upd (H6) x (.ins T.C_State dx (putF "_stopped" (.bl false) (putF "_stops" (.int 0) (putF "_sets" (.ref l1) (putF "_height" (.int 0) (putF "_sheet" (.ref sh) (putF "_side" (.str sd) (putF "_config" (.ref cf) []))))))))) := Kp.upd Kp.refl
    have cl1_7 := kk7 _ _ cl1_6 xl1
    have kp7 := Kp.trans kp6 kk7
    generalize (upd (H6) x (.ins T.C_State dx (putF "_stopped" (.bl false) (putF "_stops" (.int 0) (putF "_sets" (.ref l1) (putF "_height" (.int 0) (putF "_sheet" (.ref sh) (putF "_side" (.str sd) (putF "_config" (.ref cf) []))))))))) = H7 at hx7 kk7 kp7 cl1_7 ⊢
    clear kk7
    walk_at "my_rd"
    refine q_lstK (Nat.le_of_ble_eq_true rfl) fun l2 nl2 => ?_
    walk_at "my_rd"
    refine q_fputK (upd_new nl2 hx7) T.cl_State T.n_State_transfers (Nat.lt_of_le_of_lt len7 (by decide)) ?_
    have len8 : ((putF "_transfers" (.ref l2) (putF "_stopped" (.bl false) (putF "_stops" (.int 0) (putF "_sets" (.ref l1) (putF "_height" (.int 0) (putF "_sheet" (.ref sh) (putF "_side" (.str sd) (putF "_config" (.ref cf) [])))))))) : List (Str × V)).length ≤ 8 := q_fldlen len7
    have hx8 : (upd (upd H7 l2 (.lst [])) x (.ins T.C_State dx (putF "_transfers" (.ref l2) (putF "_stopped" (.bl false) (putF "_stops" (.int 0) (putF "_sets" (.ref l1) (putF "_height" (.int 0) (putF "_sheet" (.ref sh) (putF "_side" (.str sd) (putF "_config" (.ref cf) [])))))))))) x = some (.ins T.C_State dx (putF "_transfers" (.ref l2) (putF "_stopped" (.bl false) (putF "_stops" (.int 0) (putF "_sets" (.ref l1) (putF "_height" (.int 0) (putF "_sheet" (.ref sh) (putF "_side" (.str sd) (putF "_config" (.ref cf) []))))))))) := upd_same
    have xl2 : l2 ≠ x := (ne_of_none hx7 nl2).symm
    have zl2 : H l2 = none := Kp.fresh kp7 hh0 nl2 xl2
    have kk8 : Kp x (H7) (upd (upd H7 l2 (.lst [])) x (.ins T.C_State dx (putF "_transfers" (.ref l2) (putF "_stopped" (.bl false) (putF "_stops" (.int 0) (putF "_sets" (.ref l1) (putF "_height" (.int 0) (putF "_sheet" (.ref sh) (putF "_side" (.str sd) (putF "_config" (.ref cf) [])))))))))) := Kp.upd (Kp.new Kp.refl nl2)
    have cl2_8 : (upd (upd H7 l2 (.lst [])) x (.ins T.C_State dx (putF "_transfers" (.ref l2) (putF "_stopped" (.bl false) (putF "_stops" (.int 0) (putF "_sets" (.ref l1) (putF "_height" (.int 0) (putF "_sheet" (.ref sh) (putF "_side" (.str sd) (putF "_config" (.ref cf) [])))))))))) l2 = some (.lst []) := upd_other xl2 upd_same
    have dl1_l2 : l1 ≠ l2 := ne_of_none cl1_7 nl2
    have cl1_8 := kk8 _ _ cl1_7 xl1
    have kp8 := Kp.trans kp7 kk8
    generalize (upd (upd H7 l2 (.lst [])) x (.ins T.C_State dx (putF "_transfers" (.ref l2) (putF "_stopped" (.bl false) (putF "_stops" (.int 0) (putF "_sets" (.ref l1) (putF "_height" (.int 0) (putF "_sheet" (.ref sh) (putF "_side" (.str sd) (putF "_config" (.ref cf) [])))))))))) = H8 at hx8 kk8 kp8 cl1_8 cl2_8 ⊢
    clear kk8
    walk_at "my_rd"
    refine q_dNew fun e1 ne1 => ?_
    walk_at "my_rd"
    refine q_fputK (upd_new ne1 hx8) T.cl_State T.n_State_returned (Nat.lt_of_le_of_lt len8 (by decide)) ?_
    have len9 : ((putF "_returned" (.ref e1) (putF "_transfers" (.ref l2) (putF "_stopped" (.bl false) (putF "_stops" (.int 0) (putF "_sets" (.ref l1) (putF "_height" (.int 0) (putF "_sheet" (.ref sh) (putF "_side" (.str sd) (putF "_config" (.ref cf) []))))))))) : List (Str × V)).length ≤ 9 := q_fldlen len8
    have hx9 : (upd (upd H8 e1 (.dK [])) x (.ins T.C_State dx (putF "_returned" (.ref e1) (putF "_transfers" (.ref l2) (putF "_stopped" (.bl false) (putF "_stops" (.int 0) (putF "_sets" (.ref l1) (putF "_height" (.int 0) (putF "_sheet" (.ref sh) (putF "_side" (.str sd) (putF "_config" (.ref cf) []))))))))))) x = some (.ins T.C_State dx (putF "_returned" (.ref e1) (putF "_transfers" (.ref l2) (putF "_stopped" (.bl false) (putF "_stops" (.int 0) (putF "_sets" (.ref l1) (putF "_height" (.int 0) (putF "_sheet" (.ref sh) (putF "_side" (.str sd) (putF "_config" (.ref cf) [])))))))))) := upd_same
    have xe1 : e1 ≠ x := (ne_of_none hx8 ne1).symm
    have ze1 : H e1 = none := Kp.fresh kp8 hh0 ne1 xe1
    have kk9 : Kp x (H8) (upd (upd H8 e1 (.dK [])) x (.ins T.C_State dx (putF "_returned" (.ref e1) (putF "_transfers" (.ref l2) (putF "_stopped" (.bl false) (putF "_stops" (.int 0) (putF "_sets" (.ref l1) (putF "_height" (.int 0) (putF "_sheet" (.ref sh) (putF "_side" (.str sd) (putF "_config" (.ref cf) []))))))))))) := Kp.upd (Kp.new Kp.refl ne1)
    have ce1_9 : (upd (upd H8 e1 (.dK [])) x (.ins T.C_State dx (putF "_returned" (.ref e1) (putF "_transfers" (.ref l2) (putF "_stopped" (.bl false) (putF "_stops" (.int 0) (putF "_sets" (.ref l1) (putF "_height" (.int 0) (putF "_sheet" (.ref sh) (putF "_side" (.str sd) (putF "_config" (.ref cf) []))))))))))) e1 = some (.dK []) := upd_other xe1 upd_same
    have dl1_e1 : l1 ≠ e1 := ne_of_none cl1_8 ne1
    have dl2_e1 : l2 ≠ e1 := ne_of_none cl2_8 ne1
    have cl1_9 := kk9 _ _ cl1_8 xl1
    have cl2_9 := kk9 _ _ cl2_8 xl2
    have kp9 := Kp.trans kp8 kk9
    generalize (upd (upd H8 e1 (.dK [])) x (.ins T.C_State dx (putF "_returned" (.ref e1) (putF "_transfers" (.ref l2) (putF "_stopped" (.bl false) (putF "_stops" (.int 0) (putF "_sets" (.ref l1) (putF "_height" (.int 0) (putF "_sheet" (.ref sh) (putF "_side" (.str sd) (putF "_config" (.ref cf) []))))))))))) = H9 at hx9 kk9 kp9 cl1_9 cl2_9 ce1_9 ⊢
    clear kk9
    walk_at "my_rd"
    refine q_dNew fun e2 ne2 => ?_
    walk_at "my_rd"
    refine q_fputK (upd_new ne2 hx9) T.cl_State T.n_State_taken (Nat.lt_of_le_of_lt len9 (by decide)) ?_
    have len10 : ((putF "_taken" (.ref e2) (putF "_returned" (.ref e1) (putF "_transfers" (.ref l2) (putF "_stopped" (.bl false) (putF "_stops" (.int 0) (putF "_sets" (.ref l1) (putF "_height" (.int 0) (putF "_sheet" (.ref sh) (putF "_side" (.str sd) (putF "_config" (.ref cf) [])))))))))) : List (Str × V)).length ≤ 10 := q_fldlen len9
    have hx10 : (upd (upd H9 e2 (.dK [])) x (.ins T.C_State dx (putF "_taken" (.ref e2) (putF "_returned" (.ref e1) (putF "_transfers" (.ref l2) (putF "_stopped" (.bl false) (putF "_stops" (.int 0) (putF "_sets" (.ref l1) (putF "_height" (.int 0) (putF "_sheet" (.ref sh) (putF "_side" (.str sd) (putF "_config" (.ref cf) [])))))))))))) x = some (.ins T.C_State dx (putF "_taken" (.ref e2) (putF "_returned" (.ref e1) (putF "_transfers" (.ref l2) (putF "_stopped" (.bl false) (putF "_stops" (.int 0) (putF "_sets" (.ref l1) (putF "_height" (.int 0) (putF "_sheet" (.ref sh) (putF "_side" (.str sd) (putF "_config" (.ref cf) []))))))))))) := upd_same
    have xe2 : e2 ≠ x := (ne_of_none hx9 ne2).symm
    have ze2 : H e2 = none := Kp.fresh kp9 hh0 ne2 xe2
    have kk10 : Kp x (H9) (upd (upd H9 e2 (.dK [])) x (.ins T.C_State dx (putF "_taken" (.ref e2) (putF "_returned" (.ref e1) (putF "_transfers" (.ref l2) (putF "_stopped" (.bl false) (putF "_stops" (.int 0) (putF "_sets" (.ref l1) (putF "_height" (.int 0) (putF "_sheet" (.ref sh) (putF "_side" (.str sd) (putF "_config" (.ref cf) [])))))))))))) := Kp.upd (Kp.new Kp.refl ne2)
    have ce2_10 : (upd (upd H9 e2 (.dK [])) x (.ins T.C_State dx (putF "_taken" (.ref e2) (putF "_returned" (.ref e1) (putF "_transfers" (.ref l2) (putF "_stopped" (.bl false) (putF "_stops" (.int 0) (putF "_sets" (.ref l1) (putF "_height" (.int 0) (putF "_sheet" (.ref sh) (putF "_side" (.str sd) (putF "_config" (.ref cf) [])))))))))))) e2 = some (.dK []) := upd_other xe2 upd_same
    have dl1_e2 : l1 ≠ e2 := ne_of_none cl1_9 ne2
    have dl2_e2 : l2 ≠ e2 := ne_of_none cl2_9 ne2
    have de1_e2 : e1 ≠ e2 := ne_of_none ce1_9 ne2
    have cl1_10 := kk10 _ _ cl1_9 xl1
    have cl2_10 := kk10 _ _ cl2_9 xl2
    have ce1_10 := kk10 _ _ ce1_9 xe1
    have kp10 := Kp.trans kp9 kk10
    generalize (upd (upd H9 e2 (.dK [])) x (.ins T.C_State dx (putF "_taken" (.ref e2) (putF "_returned" (.ref e1) (putF "_transfers" (.ref l2) (putF "_stopped" (.bl false) (putF "_stops" (.int 0) (putF "_sets" (.ref l1) (putF "_height" (.int 0) (putF "_sheet" (.ref sh) (putF "_side" (.str sd) (putF "_config" (.ref cf) [])))))))))))) = H10 at hx10 kk10 kp10 cl1_10 cl2_10 ce1_10 ce2_10 ⊢
    clear kk10
    walk_at "my_rd"
    refine q_dNew fun e3 ne3 => ?_
    walk_at "my_rd"
    refine q_fputK (upd_new ne3 hx10) T.cl_State T.n_State_waiting (Nat.lt_of_le_of_lt len10 (by decide)) ?_
    have len11 : ((putF "_waiting" (.ref e3) (putF "_taken" (.ref e2) (putF "_returned" (.ref e1) (putF "_transfers" (.ref l2) (putF "_stopped" (.bl false) (putF "_stops" (.int 0) (putF "_sets" (.ref l1) (putF "_height" (.int 0) (putF "_sheet" (.ref sh) (putF "_side" (.str sd) (putF "_config" (.ref cf) []))))))))))) : List (Str × V)).length ≤ 11 := q_fldlen len10
    have hx11 : (upd (upd H10 e3 (.dK [])) x (.ins T.C_State dx (putF "_waiting" (.ref e3) (putF "_taken" (.ref e2) (putF "_returned" (.ref e1) (putF "_transfers" (.ref l2) (putF "_stopped" (.bl false) (putF "_stops" (.int 0) (putF "_sets" (.ref l1) (putF "_height" (.int 0) (putF "_sheet" (.ref sh) (putF "_side" (.str sd) (putF "_config" (.ref cf) []))))))))))))) x = some (.ins T.C_State dx (putF "_waiting" (.ref e3) (putF "_taken" (.ref e2) (putF "_returned" (.ref e1) (putF "_transfers" (.ref l2) (putF "_stopped" (.bl false) (putF "_stops" (.int 0) (putF "_sets" (.ref l1) (putF "_height" (.int 0) (putF "_sheet" (.ref sh) (putF "_side" (.str sd) (putF "_config" (.ref cf) [])))))))))))) := upd_same
    have xe3 : e3 ≠ x := (ne_of_none hx10 ne3).symm
    have ze3 : H e3 = none := Kp.fresh kp10 hh0 ne3 xe3
    have kk11 : Kp x (H10) (upd (upd H10 e3 (.dK [])) x (.ins T.C_State dx (putF "_waiting" (.ref e3) (putF "_taken" (.ref e2) (putF "_returned" (.ref e1) (putF "_transfers" (.ref l2) (putF "_stopped" (.bl false) (putF "_stops" (.int 0) (putF "_sets" (.ref l1) (putF "_height" (.int 0) (putF "_sheet" (.ref sh) (putF "_side" (.str sd) (putF "_config" (.ref cf) []))))))))))))) := Kp.upd (Kp.new Kp.refl ne3)
    have ce3_11 : (upd (upd H10 e3 (.dK [])) x (.ins T.C_State dx (putF "_waiting" (.ref e3) (putF "_taken" (.ref e2) (putF "_returned" (.ref e1) (putF "_transfers" (.ref l2) (putF "_stopped" (.bl false) (putF "_stops" (.int 0) (putF "_sets" (.ref l1) (putF "_height" (.int 0) (putF "_sheet" (.ref sh) (putF "_side" (.str sd) (putF "_config" (.ref cf) []))))))))))))) e3 = some (.dK []) := upd_other xe3 upd_same
    have dl1_e3 : l1 ≠ e3 := ne_of_none cl1_10 ne3
    have dl2_e3 : l2 ≠ e3 := ne_of_none cl2_10 ne3
    have de1_e3 : e1 ≠ e3 := ne_of_none ce1_10 ne3
    have de2_e3 : e2 ≠ e3 := ne_of_none ce2_10 ne3
    have cl1_11 := kk11 _ _ cl1_10 xl1
    have cl2_11 := kk11 _ _ cl2_10 xl2
    have ce1_11 := kk11 _ _ ce1_10 xe1
    have ce2_11 := kk11 _ _ ce2_10 xe2
    have kp11 := Kp.trans kp10 kk11
    generalize (upd (upd H10 e3 (.dK [])) x (.ins T.C_State dx (putF "_waiting" (.ref e3) (putF "_taken" (.ref e2) (putF "_returned" (.ref e1) (putF "_transfers" (.ref l2) (putF "_stopped" (.bl false) (putF "_stops" (.int 0) (putF "_sets" (.ref l1) (putF "_height" (.int 0) (putF "_sheet" (.ref sh) (putF "_side" (.str sd) (putF "_config" (.ref cf) []))))))))))))) = H11 at hx11 kk11 kp11 cl1_11 cl2_11 ce1_11 ce2_11 ce3_11 ⊢
    clear kk11
    walk_at "my_rd"
    refine q_lstK (Nat.le_of_ble_eq_true rfl) fun l3 nl3 => ?_
    walk_at "my_rd"
    refine q_fputK (upd_new nl3 hx11) T.cl_State T.n_State_deliveries (Nat.lt_of_le_of_lt len11 (by decide)) ?_
    have len12 : ((putF "_deliveries" (.ref l3) (putF "_waiting" (.ref e3) (putF "_taken" (.ref e2) (putF "_returned" (.ref e1) (putF "_transfers" (.ref l2) (putF "_stopped" (.bl false) (putF "_stops" (.int 0) (putF "_sets" (.ref l1) (putF "_height" (.int 0) (putF "_sheet" (.ref sh) (putF "_side" (.str sd) (putF "_config" (.ref cf) [])))))))))))) : List (Str × V)).length ≤ 12 := q_fldlen len11
    have hx12 : (upd (upd H11 l3 (.lst [])) x (.ins T.C_State dx (putF "_deliveries" (.ref l3) (putF "_waiting" (.ref e3) (putF "_taken" (.ref e2) (putF "_returned" (.ref e1) (putF "_transfers" (.ref l2) (putF "_stopped" (.bl false) (putF "_stops" (.int 0) (putF "_sets" (.ref l1) (putF "_height" (.int 0) (putF "_sheet" (.ref sh) (putF "_side" (.str sd) (putF "_config" (.ref cf) [])))))))))))))) x = some (.ins T.C_State dx (putF "_deliveries" (.ref l3) (putF "_waiting" (.ref e3) (putF "_taken" (.ref e2) (putF "_returned" (.ref e1) (putF "_transfers" (.ref l2) (putF "_stopped" (.bl false) (putF "_stops" (.int 0) (putF "_sets" (.ref l1) (putF "_height" (.int 0) (putF "_sheet" (.ref sh) (putF "_side" (.str sd) (putF "_config" (.ref cf) []))))))))))))) := upd_same
    have xl3 : l3 ≠ x := (ne_of_none hx11 nl3).symm
    have zl3 : H l3 = none := Kp.fresh kp11 hh0 nl3 xl3
    have kk12 : Kp x (H11) (upd (upd H11 l3 (.lst [])) x (.ins T.C_State dx (putF "_deliveries" (.ref l3) (putF "_waiting" (.ref e3) (putF "_taken" (.ref e2) (putF "_returned" (.ref e1) (putF "_transfers" (.ref l2) (putF "_stopped" (.bl false) (putF "_stops" (.int 0) (putF "_sets" (.ref l1) (putF "_height" (.int 0) (putF "_sheet" (.ref sh) (putF "_side" (.str sd) (putF "_config" (.ref cf) [])))))))))))))) := Kp.upd (Kp.new Kp.refl nl3)
    have cl3_12 : (upd (upd H11 l3 (.lst [])) x (.ins T.C_State dx (putF "_deliveries" (.ref l3) (putF "_waiting" (.ref e3) (putF "_taken" (.ref e2) (putF "_returned" (.ref e1) (putF "_transfers" (.ref l2) (putF "_stopped" (.bl false) (putF "_stops" (.int 0) (putF "_sets" (.ref l1) (putF "_height" (.int 0) (putF "_sheet" (.ref sh) (putF "_side" (.str sd) (putF "_config" (.ref cf) [])))))))))))))) l3 = some (.lst []) := upd_other xl3 upd_same
    have dl1_l3 : l1 ≠ l3 := ne_of_none cl1_11 nl3
    have dl2_l3 : l2 ≠ l3 := ne_of_none cl2_11 nl3
    have de1_l3 : e1 ≠ l3 := ne_of_none ce1_11 nl3
    have de2_l3 : e2 ≠ l3 := ne_of_none ce2_11 nl3
    have de3_l3 : e3 ≠ l3 := ne_of_none ce3_11 nl3
    have cl1_12 := kk12 _ _ cl1_11 xl1
    have cl2_12 := kk12 _ _ cl2_11 xl2
    have ce1_12 := kk12 _ _ ce1_11 xe1
    have ce2_12 := kk12 _ _ ce2_11 xe2
    have ce3_12 := kk12 _ _ ce3_11 xe3
    have kp12 := Kp.trans kp11 kk12
    generalize (upd (upd H11 l3 (.lst [])) x (.ins T.C_State dx (putF "_deliveries" (.ref l3) (putF "_waiting" (.ref e3) (putF "_taken" (.ref e2) (putF "_returned" (.ref e1) (putF "_transfers" (.ref l2) (putF "_stopped" (.bl false) (putF "_stops" (.int 0) (putF "_sets" (.ref l1) (putF "_height" (.int 0) (putF "_sheet" (.ref sh) (putF "_side" (.str sd) (putF "_config" (.ref cf) [])))))))))))))) = H12 at hx12 kk12 kp12 cl1_12 cl2_12 ce1_12 ce2_12 ce3_12 cl3_12 ⊢
    clear kk12
    walk_at "my_rd"
    refine k H12 l1 l2 l3 e1 e2 e3 ⟨⟨dx, _, hx12, ?_, ?_, ?_, ?_, ?_, ?_, ?_, ?_, ?_, ?_, ?_, ?_, ?_, by omega⟩, cl1_12, cl2_12, cl3_12, ce1_12, ce2_12, ce3_12, ⟨dl1_l2, dl1_l3, dl2_l3⟩, ⟨de1_e2, de1_e3, de2_e3⟩⟩ ?_ kp12
    · (repeat first | rfl | rw [lookup_putF, if_pos rfl] | rw [lookup_putF, if_neg (by decide +kernel)])
    · (repeat first | rfl | rw [lookup_putF, if_pos rfl] | rw [lookup_putF, if_neg (by decide +kernel)])
    · (repeat first | rfl | rw [lookup_putF, if_pos rfl] | rw [lookup_putF, if_neg (by decide +kernel)])
    · (repeat first | rfl | rw [lookup_putF, if_pos rfl] | rw [lookup_putF, if_neg (by decide +kernel)])
    · (repeat first | rfl | rw [lookup_putF, if_pos rfl] | rw [lookup_putF, if_neg (by decide +kernel)])
    · (repeat first | rfl | rw [lookup_putF, if_pos rfl] | rw [lookup_putF, if_neg (by decide +kernel)])
    · (repeat first | rfl | rw [lookup_putF, if_pos rfl] | rw [lookup_putF, if_neg (by decide +kernel)])
    · (repeat first | rfl | rw [lookup_putF, if_pos rfl] | rw [lookup_putF, if_neg (by decide +kernel)])
    · (repeat first | rfl | rw [lookup_putF, if_pos rfl] | rw [lookup_putF, if_neg (by decide +kernel)])
    · (repeat first | rfl | rw [lookup_putF, if_pos rfl] | rw [lookup_putF, if_neg (by decide +kernel)])
    · (repeat first | rfl | rw [lookup_putF, if_pos rfl] | rw [lookup_putF, if_neg (by decide +kernel)])
    · (repeat first | rfl | rw [lookup_putF, if_pos rfl] | rw [lookup_putF, if_neg (by decide +kernel)])
    · intro m hm
      have hne : ∀ z ∈ stNames, ¬ m = z := fun z hz e => hm (e ▸ hz)
      rw [lookup_putF, if_neg (hne _ (by decide +kernel)), lookup_putF, if_neg (hne _ (by decide +kernel)), lookup_putF, if_neg (hne _ (by decide +kernel)), lookup_putF, if_neg (hne _ (by decide +kernel)), lookup_putF, if_neg (hne _ (by decide +kernel)), lookup_putF, if_neg (hne _ (by decide +kernel)), lookup_putF, if_neg (hne _ (by decide +kernel)), lookup_putF, if_neg (hne _ (by decide +kernel)), lookup_putF, if_neg (hne _ (by decide +kernel)), lookup_putF, if_neg (hne _ (by decide +kernel)), lookup_putF, if_neg (hne _ (by decide +kernel)), lookup_putF, if_neg (hne _ (by decide +kernel))]
      rfl
    · intro b hb
      simp only [List.mem_cons, List.not_mem_nil, or_false] at hb
      rcases hb with rfl | rfl | rfl | rfl | rfl | rfl <;> assumption
theorem ok_State_copy (T : Txt K mg) : FnOk P w K mg base CX0 7 T.f_State_copy T.d_State_copy ["self"] (sp_stC T.C_State T.C_Sheet T.C_Config) := by
  refine T.F_State_copy.ok sc_State_copy (fun vs H Q E h => ?_) (fun cdv A outer s H vs Q E hr h => ?_)
  · obtain ⟨x, g, M, c, rfl, _⟩ := h; rfl
  · obtain ⟨x, g, M, c, rfl, hM, hC, hc, hG, k⟩ := h
    obtain ⟨dx, fs, h0, h1, h2, h3, h4, h5, h6, h7, h8, h9, h10, h11, h12, h13, h14⟩ := hM.r.ex
    obtain ⟨dS, fS, s0, _, _, _, _, _, s6, _⟩ := id hM.sh.ex
    refine ⟨_, (pss_cons (ps_set (i := 1) sc_State_copy.nd rfl (Or.inl rfl) (pe_make T.mk_State (ok_State_init T) (hr.mono (by decide)) (by rfl) T.g_State T.b_State_init .nil pass0 (pa_cons (pe_fld (pv 0) rfl) (pa_cons (pe_fld (pv 0) rfl) (pa_cons (pe_meth0 (pe_fld (pv 0) rfl) T.cl_Sheet T.m_Sheet_copy (ok_Sheet_copy T) (hr.mono (by decide)) T.b_Sheet_copy .nil pass0) pa_nil)))))
      (pss_cons (ps_fld (pv 1) (pe_fld (pv 0) rfl) rfl)
      (pss_cons (ps_fld (pv 1) (pe_callTy cq_listOf (by rfl) T.z_list boot_list (pa_cons (pe_fld (pv 0) rfl) pa_nil)) rfl)
      (pss_cons (ps_fld (pv 1) (pe_fld (pv 0) rfl) rfl)
      (pss_cons (ps_fld (pv 1) (pe_fld (pv 0) rfl) rfl)
      (pss_cons (ps_fld (pv 1) (pe_callTy cq_listOf (by rfl) T.z_list boot_list (pa_cons (pe_fld (pv 0) rfl) pa_nil)) rfl)
      (pss_cons (ps_fld (pv 1) (pe_callTy call_dictD (by rfl) T.z_dict boot_dict (pa_cons (pe_fld (pv 0) rfl) pa_nil)) rfl)
      (pss_cons (ps_fld (pv 1) (pe_callTy call_dictD (by rfl) T.z_dict boot_dict (pa_cons (pe_fld (pv 0) rfl) pa_nil)) rfl)
      (pss_cons (ps_fld (pv 1) (pe_callTy call_dictD (by rfl) T.z_dict boot_dict (pa_cons (pe_fld (pv 0) rfl) pa_nil)) rfl)
      (pss_cons (ps_fld (pv 1) (pe_callTy cq_listOf (by rfl) T.z_list boot_list (pa_cons (pe_fld (pv 0) rfl) pa_nil)) rfl)
      (pss_one (ps_ret (pv 1))))))))))))), ?_⟩
    (dsimp only [cxOf, Cx.nox, Cx.wish, L2.start, List.map, List.length, List.replicate, List.cons_append, List.nil_append, List.append_eq, Nat.reduceSub, Nat.reduceAdd])
    walk_at "my_rd"
    refine q_fldK h0 T.cl_State T.n_State_config h1 ?_
    walk_at "my_rd"
    refine q_fldK h0 T.cl_State T.n_State_side h2 ?_
    walk_at "my_rd"
    refine q_fldK h0 T.cl_State T.n_State_sheet h3 ?_
    walk_at "my_rd"
    refine q_methK s0 (s6 _ no_st.2.2.1) fun R hR => ?_
    walk_at "my_rd"
    refine hR _ _ ⟨M.sh, g, M.S, c, rfl, hM.sh, by rw [hM.cf]; exact hC, hc, hG.b, hG.d, hG.nb, hG.nd, fun sh Ha S' nsh hS' q1 q2 q3 q4 q5 hf sma => ?_⟩
    clear hR
    walk_at "my_rd"
    intro y dy ny ndy hne
    have ny0 : H y = none := Same.free sma ny
    have smM : Same Ha (upd (upd Ha dy (.own y)) y (.ins T.C_State dy [])) := Same.up (Same.up (Same.refl _) ndy) (upd_free hne.symm ny)
    refine ⟨y, dy, M.cf, g, sh, c, M.side, S', rfl, upd_same, (hC.same sma).same smM, fun H0 l1 l2 l3 e1 e2 e3 hR0 hfr kpI => ⟨rfl, ?_⟩⟩
    obtain ⟨dz, gs, hx0, g1, g2, g3, g4, g5, g6, g7, g8, g9, g10, g11, g12, g13, g14⟩ := hR0.ex
    have nsy : sh ≠ y := by
      obtain ⟨_, _, q, _⟩ := hS'.ex
      exact ne_of_none q ny
    have foot0 : ∀ b ∈ S'.foot, b ≠ y := fun b hb => by
      obtain ⟨_, q⟩ := hS'.footK hb
      exact ne_of_none q ny
    have hS0 : ShAt T.C_Sheet H0 sh S' := hS'.keep (fun o q => kpI _ _ (smM _ _ q) nsy) (fun b hb o q => kpI _ _ (smM _ _ q) (foot0 b hb))
    have sm0 : Same H H0 := fun b o q => kpI b o (smM _ _ (sma _ _ q)) (ne_of_none (sma _ _ q) ny)
    have kp0 : Kp y H0 H0 := Kp.refl
    have sf0 : ∀ b, H0 b = none → b ∉ S'.foot := fun b q m => by
      obtain ⟨_, z⟩ := hS0.footK m
      rw [q] at z; cases z
    have fresh0 : ∀ b, H0 b = none → H b = none := fun b q => Same.free sm0 q
    clear hfr kpI smM hS' sma
    walk_at "my_rd"
    refine q_fldK (sm0 _ _ h0) T.cl_State T.n_State_height h4 ?_
    walk_at "my_rd"
    have len0 : gs.length ≤ 22 := g14
    refine q_fputK hx0 T.cl_State T.n_State_height (Nat.lt_of_le_of_lt len0 (by decide)) ?_
    have len1 : ((putF "_height" (.int M.height) gs) : List (Str × V)).length ≤ 22 := by rw [putF_len (by exact g4)]; exact len0
    have hx1 : (upd (H0) y (.ins T.C_State dz (putF "_height" (.int M.height) gs))) y = some (.ins T.C_State dz (putF "_height" (.int M.height) gs)) := upd_same
    have kk1 : Kp y (H0) (upd (H0) y (.ins T.C_State dz (putF "_height" (.int M.height) gs))) := Kp.upd Kp.refl
    have kp1 := Kp.trans kp0 kk1
    generalize (upd (H0) y (.ins T.C_State dz (putF "_height" (.int M.height) gs))) = H1 at hx1 kk1 kp1 ⊢
    clear kk1
    have sm1 : Same H H1 := fun b o q => kp1 _ _ (sm0 _ _ q) (ne_of_none q ny0)
    walk_at "my_rd"
    refine q_fldK (sm1 _ _ h0) T.cl_State T.n_State_sets h5 ?_
    walk_at "my_rd"
    refine q_listL (sqL (sm1 _ _ hM.r.a1)) fun nl1 nnl1 => ?_
    walk_at "my_rd"
    refine q_fputK (upd_new nnl1 hx1) T.cl_State T.n_State_sets (Nat.lt_of_le_of_lt len1 (by decide)) ?_
    have len2 : ((putF "_sets" (.ref nl1) (putF "_height" (.int M.height) gs)) : List (Str × V)).length ≤ 22 := by rw [putF_len (by rw [lookup_putF, if_neg (by decide +kernel)]; exact g5)]; exact len1
    have hx2 : (upd (upd H1 nl1 (.lst M.sets)) y (.ins T.C_State dz (putF "_sets" (.ref nl1) (putF "_height" (.int M.height) gs)))) y = some (.ins T.C_State dz (putF "_sets" (.ref nl1) (putF "_height" (.int M.height) gs))) := upd_same
    have xnl1 : nl1 ≠ y := (ne_of_none hx1 nnl1).symm
    have wnl1 : H0 nl1 = none := Kp.fresh kp1 hx0 nnl1 xnl1
    have kk2 : Kp y (H1) (upd (upd H1 nl1 (.lst M.sets)) y (.ins T.C_State dz (putF "_sets" (.ref nl1) (putF "_height" (.int M.height) gs)))) := Kp.upd (Kp.new Kp.refl nnl1)
    have cnl1_2 : (upd (upd H1 nl1 (.lst M.sets)) y (.ins T.C_State dz (putF "_sets" (.ref nl1) (putF "_height" (.int M.height) gs)))) nl1 = some (.lst M.sets) := upd_other xnl1 upd_same
    have kp2 := Kp.trans kp1 kk2
    generalize (upd (upd H1 nl1 (.lst M.sets)) y (.ins T.C_State dz (putF "_sets" (.ref nl1) (putF "_height" (.int M.height) gs)))) = H2 at hx2 kk2 kp2 cnl1_2 ⊢
    clear kk2
    have sm2 : Same H H2 := fun b o q => kp2 _ _ (sm0 _ _ q) (ne_of_none q ny0)
    walk_at "my_rd"
    refine q_fldK (sm2 _ _ h0) T.cl_State T.n_State_stops h6 ?_
    walk_at "my_rd"
    refine q_fputK hx2 T.cl_State T.n_State_stops (Nat.lt_of_le_of_lt len2 (by decide)) ?_
    have len3 : ((putF "_stops" (.int M.stops) (putF "_sets" (.ref nl1) (putF "_height" (.int M.height) gs))) : List (Str × V)).length ≤ 22 := by rw [putF_len (by rw [lookup_putF, if_neg (by decide +kernel), lookup_putF, if_neg (by decide +kernel)]; exact g6)]; exact len2
    have hx3 : (upd (H2) y (.ins T.C_State dz (putF "_stops" (.int M.stops) (putF "_sets" (.ref nl1) (putF "_height" (.int M.height) gs))))) y = some (.ins T.C_State dz (putF "_stops" (.int M.stops) (putF "_sets" (.ref nl1) (putF "_height" (.int M.height) gs)))) := upd_same
    have kk3 : Kp y (H2) (upd (H2) y (.ins T.C_State dz (putF "_stops" (.int M.stops) (putF "_sets" (.ref nl1) (putF "_height" (.int M.height) gs))))) := Kp.upd Kp.refl
    have cnl1_3 := kk3 _ _ cnl1_2 xnl1
    have kp3 := Kp.trans kp2 kk3
    generalize (upd (H2) y (.ins T.C_State dz (putF "_stops" (.int M.stops) (putF "_sets" (.ref nl1) (putF "_height" (.int M.height) gs))))) = H3 at hx3 kk3 kp3 cnl1_3 ⊢
    clear kk3
    have sm3 : Same H H3 := fun b o q => kp3 _ _ (sm0 _ _ q) (ne_of_none q ny0)
    walk_at "my_rd"
    refine q_fldK (sm3 _ _ h0) T.cl_State T.n_State_stopped h7 ?_
    walk_at "my_rd"
    refine q_fputK hx3 T.cl_State T.n_State_stopped (Nat.lt_of_le_of_lt len3 (by decide)) ?_
    have len4 : ((putF "_stopped" (.bl M.stopped) (putF "_stops" (.int M.stops) (putF "_sets" (.ref nl1) (putF "_height" (.int M.height) gs)))) : List (Str × V)).length ≤ 22 := by rw [putF_len (by rw [lookup_putF, if_neg (by decide +kernel), lookup_putF, if_neg (by decide +kernel), lookup_putF, if_neg (by decide +kernel)]; exact g7)]; exact len3
    have hx4 : (upd (H3) y (.ins T.C_State dz (putF "_stopped" (.bl M.stopped) (putF "_stops" (.int M.stops) (putF "_sets" (.ref nl1) (putF "_height" (.int M.height) gs)))))) y = some (.ins T.C_State dz (putF "_stopped" (.bl M.stopped) (putF "_stops" (.int M.stops) (putF "_sets" (.ref nl1) (putF "_height" (.int M.height) gs))))) := upd_same
    have kk4 : Kp y (H3) (upd (H3) y (.ins T.C_State dz (putF "_stopped" (.bl M.stopped) (putF "_stops" (.int M.stops) (putF "_sets" (.ref nl1) (putF "_height" (.int M.height) gs)))))) := Kp.upd Kp.refl
    have cnl1_4 := kk4 _ _ cnl1_3 xnl1
    have kp4 := Kp.trans kp3 kk4
    generalize (upd (H3) y (.ins T.C_State dz (putF "_stopped" (.bl M.stopped) (putF "_stops" (.int M.stops) (putF "_sets" (.ref nl1) (putF "_height" (.int M.height) gs)))))) = H4 at hx4 kk4 kp4 cnl1_4 ⊢
    clear kk4
    have sm4 : Same H H4 := fun b o q => kp4 _ _ (sm0 _ _ q) (ne_of_none q ny0)
    walk_at "my_rd"
    refine q_fldK (sm4 _ _ h0) T.cl_State T.n_State_transfers h8 ?_
    walk_at "my_rd"
    refine q_listL (sqL (sm4 _ _ hM.r.a2)) fun nl2 nnl2 => ?_
    walk_at "my_rd"
    refine q_fputK (upd_new nnl2 hx4) T.cl_State T.n_State_transfers (Nat.lt_of_le_of_lt len4 (by decide)) ?_
    have len5 : ((putF "_transfers" (.ref nl2) (putF "_stopped" (.bl M.stopped) (putF "_stops" (.int M.stops) (putF "_sets" (.ref nl1) (putF "_height" (.int M.height) gs))))) : List (Str × V)).length ≤ 22 := by rw [putF_len (by rw [lookup_putF, if_neg (by decide +kernel), lookup_putF, if_neg (by decide +kernel), lookup_putF, if_neg (by decide +kernel), lookup_putF, if_neg (by decide +kernel)]; exact g8)]; exact len4
    have hx5 : (upd (upd H4 nl2 (.lst M.trs)) y (.ins T.C_State dz (putF "_transfers" (.ref nl2) (putF "_stopped" (.bl M.stopped) (putF "_stops" (.int M.stops) (putF "_sets" (.ref nl1) (putF "_height" (.int M.height) gs))))))) y = some (.ins T.C_State dz (putF "_transfers" (.ref nl2) (putF "_stopped" (.bl M.stopped) (putF "_stops" (.int M.stops) (putF "_sets" (.ref nl1) (putF "_height" (.int M.height) gs)))))) := upd_same
    have xnl2 : nl2 ≠ y := (ne_of_none hx4 nnl2).symm
    have wnl2 : H0 nl2 = none := Kp.fresh kp4 hx0 nnl2 xnl2
    have kk5 : Kp y (H4) (upd (upd H4 nl2 (.lst M.trs)) y (.ins T.C_State dz (putF "_transfers" (.ref nl2) (putF "_stopped" (.bl M.stopped) (putF "_stops" (.int M.stops) (putF "_sets" (.ref nl1) (putF "_height" (.int M.height) gs))))))) := Kp.upd (Kp.new Kp.refl nnl2)
    have cnl2_5 : (upd (upd H4 nl2 (.lst M.trs)) y (.ins T.C_State dz (putF "_transfers" (.ref nl2) (putF "_stopped" (.bl M.stopped) (putF "_stops" (.int M.stops) (putF "_sets" (.ref nl1) (putF "_height" (.int M.height) gs))))))) nl2 = some (.lst M.trs) := upd_other xnl2 upd_same
    have dnl1_nl2 : nl1 ≠ nl2 := ne_of_none cnl1_4 nnl2
    have cnl1_5 := kk5 _ _ cnl1_4 xnl1
    have kp5 := Kp.trans kp4 kk5
    generalize (upd (upd H4 nl2 (.lst M.trs)) y (.ins T.C_State dz (putF "_transfers" (.ref nl2) (putF "_stopped" (.bl M.stopped) (putF "_stops" (.int M.stops) (putF "_sets" (.ref nl1) (putF "_height" (.int M.height) gs))))))) = H5 at hx5 kk5 kp5 cnl1_5 cnl2_5 ⊢
    clear kk5
    have sm5 : Same H H5 := fun b o q => kp5 _ _ (sm0 _ _ q) (ne_of_none q ny0)
    walk_at "my_rd"
    refine q_fldK (sm5 _ _ h0) T.cl_State T.n_State_returned h9 ?_
    walk_at "my_rd"
    refine ⟨M.e1, M.ret, rfl, .inl (sm5 _ _ hM.r.b1), fun ne1 nne1 => ?_⟩
    walk_at "my_rd"
    refine q_fputK (upd_new nne1 hx5) T.cl_State T.n_State_returned (Nat.lt_of_le_of_lt len5 (by decide)) ?_
    have len6 : ((putF "_returned" (.ref ne1) (putF "_transfers" (.ref nl2) (putF "_stopped" (.bl M.stopped) (putF "_stops" (.int M.stops) (putF "_sets" (.ref nl1) (putF "_height" (.int M.height) gs)))))) : List (Str × V)).length ≤ 22 := by rw [putF_len (by rw [lookup_putF, if_neg (by decide +kernel), lookup_putF, if_neg (by decide +kernel), lookup_putF, if_neg (by decide +kernel), lookup_putF, if_neg (by decide +kernel), lookup_putF, if_neg (by decide +kernel)]; exact g9)]; exact len5
    have hx6 : (upd (upd H5 ne1 (.dK M.ret)) y (.ins T.C_State dz (putF "_returned" (.ref ne1) (putF "_transfers" (.ref nl2) (putF "_stopped" (.bl M.stopped) (putF "_stops" (.int M.stops) (putF "_sets" (.ref nl1) (putF "_height" (.int M.height) gs)))))))) y = some (.ins T.C_State dz (putF "_returned" (.ref ne1) (putF "_transfers" (.ref nl2) (putF "_stopped" (.bl M.stopped) (putF "_stops" (.int M.stops) (putF "_sets" (.ref nl1) (putF "_height" (.int M.height) gs))))))) := upd_same
    have xne1 : ne1 ≠ y := (ne_of_none hx5 nne1).symm
    have wne1 : H0 ne1 = none := Kp.fresh kp5 hx0 nne1 xne1
    have kk6 : Kp y (H5) (upd (upd H5 ne1 (.dK M.ret)) y (.ins T.C_State dz (putF "_returned" (.ref ne1) (putF "_transfers" (.ref nl2) (putF "_stopped" (.bl M.stopped) (putF "_stops" (.int M.stops) (putF "_sets" (.ref nl1) (putF "_height" (.int M.height) gs)))))))) := Kp.upd (Kp.new Kp.refl nne1)
    have cne1_6 : (upd (upd H5 ne1 (.dK M.ret)) y (.ins T.C_State dz (putF "_returned" (.ref ne1) (putF "_transfers" (.ref nl2) (putF "_stopped" (.bl M.stopped) (putF "_stops" (.int M.stops) (putF "_sets" (.ref nl1) (putF "_height" (.int M.height) gs)))))))) ne1 = some (.dK M.ret) := upd_other xne1 upd_same
    have dnl1_ne1 : nl1 ≠ ne1 := ne_of_none cnl1_5 nne1
    have dnl2_ne1 : nl2 ≠ ne1 := ne_of_none cnl2_5 nne1
    have cnl1_6 := kk6 _ _ cnl1_5 xnl1
    have cnl2_6 := kk6 _ _ cnl2_5 xnl2
    have kp6 := Kp.trans kp5 kk6
    generalize (upd (upd H5 ne1 (.dK M.ret)) y (.ins T.C_State dz (putF "_returned" (.ref ne1) (putF "_transfers" (.ref nl2) (putF "_stopped" (.bl M.stopped) (putF "_stops" (.int M.stops) (putF "_sets" (.ref nl1) (putF "_height" (.int M.height) gs)))))))) = H6 at hx6 kk6 kp6 cnl1_6 cnl2_6 cne1_6 ⊢
    clear kk6
    have sm6 : Same H H6 := fun b o q => kp6 _ _ (sm0 _ _ q) (ne_of_none q ny0)
    walk_at "my_rd"
    refine q_fldK (sm6 _ _ h0) T.cl_State T.n_State_taken h10 ?_
    walk_at "my_rd"
    refine ⟨M.e2, M.tak, rfl, .inl (sm6 _ _ hM.r.b2), fun ne2 nne2 => ?_⟩
    walk_at "my_rd"
    refine q_fputK (upd_new nne2 hx6) T.cl_State T.n_State_taken (Nat.lt_of_le_of_lt len6 (by decide)) ?_
    have len7 : ((putF "_taken" (.ref ne2) (putF "_returned" (.ref ne1) (putF "_transfers" (.ref nl2) (putF "_stopped" (.bl M.stopped) (putF "_stops" (.int M.stops) (putF "_sets" (.ref nl1) (putF "_height" (.int M.height) gs))))))) : List (Str × V)).length ≤ 22 := by rw [putF_len (by rw [lookup_putF, if_neg (by decide +kernel), lookup_putF, if_neg (by decide +kernel), lookup_putF, if_neg (by decide +kernel), lookup_putF, if_neg (by decide +kernel), lookup_putF, if_neg (by decide +kernel), lookup_putF, if_neg (by decide +kernel)]; exact g10)]; exact len6
    have hx7 : (upd (upd H6 ne2 (.dK M.tak)) y (.ins T.C_State dz (putF "_taken" (.ref ne2) (putF "_returned" (.ref ne1) (putF "_transfers" (.ref nl2) (putF "_stopped" (.bl M.stopped) (putF "_stops" (.int M.stops) (putF "_sets" (.ref nl1) (putF "_height" (.int M.height) gs))))))))) y = some (.ins T.C_State dz (putF "_taken" (.ref ne2) (putF "_returned" (.ref ne1) (putF "_transfers" (.ref nl2) (putF "_stopped" (.bl M.stopped) (putF "_stops" (.int M.stops) (putF "_sets" (.ref nl1) (putF "_height" (.int M.height) gs)))))))) := upd_same
    have xne2 : ne2 ≠ y := (ne_of_none hx6 nne2).symm
    have wne2 : H0 ne2 = none := Kp.fresh kp6 hx0 nne2 xne2
    have kk7 : Kp y (H6) (upd (upd H6 ne2 (.dK M.tak)) y (.ins T.C_State dz (putF "_taken" (.ref ne2) (putF "_returned" (.ref ne1) (putF "_transfers" (.ref nl2) (putF "_stopped" (.bl M.stopped) (putF "_stops" (.int M.stops) (putF "_sets" (.ref nl1) (putF "_height" (.int M.height) gs))))))))) := Kp.upd (Kp.new Kp.refl nne2)
    have cne2_7 : (upd (upd H6 ne2 (.dK M.tak)) y (.ins T.C_State dz (putF "_taken" (.ref ne2) (putF "_returned" (.ref ne1) (putF "_transfers" (.ref nl2) (putF "_stopped" (.bl M.stopped) (putF "_stops" (.int M.stops) (putF "_sets" (.ref nl1) (putF "_height" (.int M.height) gs))))))))) ne2 = some (.dK M.tak) := upd_other xne2 upd_same
    have dnl1_ne2 : nl1 ≠ ne2 := ne_of_none cnl1_6 nne2
    have dnl2_ne2 : nl2 ≠ ne2 := ne_of_none cnl2_6 nne2
    have dne1_ne2 : ne1 ≠ ne2 := ne_of_none cne1_6 nne2
    have cnl1_7 := kk7 _ _ cnl1_6 xnl1
    have cnl2_7 := kk7 _ _ cnl2_6 xnl2
    have cne1_7 := kk7 _ _ cne1_6 xne1
    have kp7 := Kp.trans kp6 kk7
    generalize (upd (upd H6 ne2 (.dK M.tak)) y (.ins T.C_State dz (putF "_taken" (.ref ne2) (putF "_returned" (.ref ne1) (putF "_transfers" (.ref nl2) (putF "_stopped" (.bl M.stopped) (putF "_stops" (.int M.stops) (putF "_sets" (.ref nl1) (putF "_height" (.int M.height) gs))))))))) = H7 at hx7 kk7 kp7 cnl1_7 cnl2_7 cne1_7 cne2_7 ⊢
    clear kk7
    have sm7 : Same H H7 := fun b o q => kp7 _ _ (sm0 _ _ q) (ne_of_none q ny0)
    walk_at "my_rd"
    refine q_fldK (sm7 _ _ h0) T.cl_State T.n_State_waiting h11 ?_
    walk_at "my_rd"
    refine ⟨M.e3, M.wai, rfl, .inl (sm7 _ _ hM.r.b3), fun ne3 nne3 => ?_⟩
    walk_at "my_rd"
    refine q_fputK (upd_new nne3 hx7) T.cl_State T.n_State_waiting (Nat.lt_of_le_of_lt len7 (by decide)) ?_
    have len8 : ((putF "_waiting" (.ref ne3) (putF "_taken" (.ref ne2) (putF "_returned" (.ref ne1) (putF "_transfers" (.ref nl2) (putF "_stopped" (.bl M.stopped) (putF "_stops" (.int M.stops) (putF "_sets" (.ref nl1) (putF "_height" (.int M.height) gs)))))))) : List (Str × V)).length ≤ 22 := by rw [putF_len (by rw [lookup_putF, if_neg (by decide +kernel), lookup_putF, if_neg (by decide +kernel), lookup_putF, if_neg (by decide +kernel), lookup_putF, if_neg (by decide +kernel), lookup_putF, if_neg (by decide +kernel), lookup_putF, if_neg (by decide +kernel), lookup_putF, if_neg (by decide +kernel)]; exact g11)]; exact len7
    have hx8 : (upd (upd H7 ne3 (.dK M.wai)) y (.ins T.C_State dz (putF "_waiting" (.ref ne3) (putF "_taken" (.ref ne2) (putF "_returned" (.ref ne1) (putF "_transfers" (.ref nl2) (putF "_stopped" (.bl M.stopped) (putF "_stops" (.int M.stops) (putF "_sets" (.ref nl1) (putF "_height" (.int M.height) gs)))))))))) y = some (.ins T.C_State dz (putF "_waiting" (.ref ne3) (putF "_taken" (.ref ne2) (putF "_returned" (.ref ne1) (putF "_transfers" (.ref nl2) (putF "_stopped" (.bl M.stopped) (putF "_stops" (.int M.stops) (putF "_sets" (.ref nl1) (putF "_height" (.int M.height) gs))))))))) := upd_same
    have xne3 : ne3 ≠ y := (ne_of_none hx7 nne3).symm
    have wne3 : H0 ne3 = none := Kp.fresh kp7 hx0 nne3 xne3
    have kk8 : Kp y (H7) (upd (upd H7 ne3 (.dK M.wai)) y (.ins T.C_State dz (putF "_waiting" (.ref ne3) (putF "_taken" (.ref ne2) (putF "_returned" (.ref ne1) (putF "_transfers" (.ref nl2) (putF "_stopped" (.bl M.stopped) (putF "_stops" (.int M.stops) (putF "_sets" (.ref nl1) (putF "_height" (.int M.height) gs)))))))))) := Kp.upd (Kp.new Kp.refl nne3)
    have cne3_8 : (upd (upd H7 ne3 (.dK M.wai)) y (.ins T.C_State dz (putF "_waiting" (.ref ne3) (putF "_taken" (.ref ne2) (putF "_returned" (.ref ne1) (putF "_transfers" (.ref nl2) (putF "_stopped" (.bl M.stopped) (putF "_stops" (.int M.stops) (putF "_sets" (.ref nl1) (putF "_height" (.int M.height) gs)))))))))) ne3 = some (.dK M.wai) := upd_other xne3 upd_same
    have dnl1_ne3 : nl1 ≠ ne3 := ne_of_none cnl1_7 nne3
    have dnl2_ne3 : nl2 ≠ ne3 := ne_of_none cnl2_7 nne3
    have dne1_ne3 : ne1 ≠ ne3 := ne_of_none cne1_7 nne3
    have dne2_ne3 : ne2 ≠ ne3 := ne_of_none cne2_7 nne3
    have cnl1_8 := kk8 _ _ cnl1_7 xnl1
    have cnl2_8 := kk8 _ _ cnl2_7 xnl2
    have cne1_8 := kk8 _ _ cne1_7 xne1
    have cne2_8 := kk8 _ _ cne2_7 xne2
    have kp8 := Kp.trans kp7 kk8
    generalize (upd (upd H7 ne3 (.dK M.wai)) y (.ins T.C_State dz (putF "_waiting" (.ref ne3) (putF "_taken" (.ref ne2) (putF "_returned" (.ref ne1) (putF "_transfers" (.ref nl2) (putF "_stopped" (.bl M.stopped) (putF "_stops" (.int M.stops) (putF "_sets" (.ref nl1) (putF "_height" (.int M.height) gs)))))))))) = H8 at hx8 kk8 kp8 cnl1_8 cnl2_8 cne1_8 cne2_8 cne3_8 ⊢
    clear kk8
    have sm8 : Same H H8 := fun b o q => kp8 _ _ (sm0 _ _ q) (ne_of_none q ny0)
    walk_at "my_rd"
    refine q_fldK (sm8 _ _ h0) T.cl_State T.n_State_deliveries h12 ?_
    walk_at "my_rd"
    refine q_listL (sqL (sm8 _ _ hM.r.a3)) fun nl3 nnl3 => ?_
    walk_at "my_rd"
    refine q_fputK (upd_new nnl3 hx8) T.cl_State T.n_State_deliveries (Nat.lt_of_le_of_lt len8 (by decide)) ?_
    have len9 : ((putF "_deliveries" (.ref nl3) (putF "_waiting" (.ref ne3) (putF "_taken" (.ref ne2) (putF "_returned" (.ref ne1) (putF "_transfers" (.ref nl2) (putF "_stopped" (.bl M.stopped) (putF "_stops" (.int M.stops) (putF "_sets" (.ref nl1) (putF "_height" (.int M.height) gs))))))))) : List (Str × V)).length ≤ 22 := by rw [putF_len (by rw [lookup_putF, if_neg (by decide +kernel), lookup_putF, if_neg (by decide +kernel), lookup_putF, if_neg (by decide +kernel), lookup_putF, if_neg (by decide +kernel), lookup_putF, if_neg (by decide +kernel), lookup_putF, if_neg (by decide +kernel), lookup_putF, if_neg (by decide +kernel), lookup_putF, if_neg (by decide +kernel)]; exact g12)]; exact len8
    have hx9 : (upd (upd H8 nl3 (.lst M.dels)) y (.ins T.C_State dz (putF "_deliveries" (.ref nl3) (putF "_waiting" (.ref ne3) (putF "_taken" (.ref ne2) (putF "_returned" (.ref ne1) (putF "_transfers" (.ref nl2) (putF "_stopped" (.bl M.stopped) (putF "_stops" (.int M.stops) (putF "_sets" (.ref nl1) (putF "_height" (.int M.height) gs))))))))))) y = some (.ins T.C_State dz (putF "_deliveries" (.ref nl3) (putF "_waiting" (.ref ne3) (putF "_taken" (.ref ne2) (putF "_returned" (.ref ne1) (putF "_transfers" (.ref nl2) (putF "_stopped" (.bl M.stopped) (putF "_stops" (.int M.stops) (putF "_sets" (.ref nl1) (putF "_height" (.int M.height) gs)))))))))) := upd_same
    have xnl3 : nl3 ≠ y := (ne_of_none hx8 nnl3).symm
    have wnl3 : H0 nl3 = none := Kp.fresh kp8 hx0 nnl3 xnl3
    have kk9 : Kp y (H8) (upd (upd H8 nl3 (.lst M.dels)) y (.ins T.C_State dz (putF "_deliveries" (.ref nl3) (putF "_waiting" (.ref ne3) (putF "_taken" (.ref ne2) (putF "_returned" (.ref ne1) (putF "_transfers" (.ref nl2) (putF "_stopped" (.bl M.stopped) (putF "_stops" (.int M.stops) (putF "_sets" (.ref nl1) (putF "_height" (.int M.height) gs))))))))))) := Kp.upd (Kp.new Kp.refl nnl3)
    have cnl3_9 : (upd (upd H8 nl3 (.lst M.dels)) y (.ins T.C_State dz (putF "_deliveries" (.ref nl3) (putF "_waiting" (.ref ne3) (putF "_taken" (.ref ne2) (putF "_returned" (.ref ne1) (putF "_transfers" (.ref nl2) (putF "_stopped" (.bl M.stopped) (putF "_stops" (.int M.stops) (putF "_sets" (.ref nl1) (putF "_height" (.int M.height) gs))))))))))) nl3 = some (.lst M.dels) := upd_other xnl3 upd_same
    have dnl1_nl3 : nl1 ≠ nl3 := ne_of_none cnl1_8 nnl3
    have dnl2_nl3 : nl2 ≠ nl3 := ne_of_none cnl2_8 nnl3
    have dne1_nl3 : ne1 ≠ nl3 := ne_of_none cne1_8 nnl3
    have dne2_nl3 : ne2 ≠ nl3 := ne_of_none cne2_8 nnl3
    have dne3_nl3 : ne3 ≠ nl3 := ne_of_none cne3_8 nnl3
    have cnl1_9 := kk9 _ _ cnl1_8 xnl1
    have cnl2_9 := kk9 _ _ cnl2_8 xnl2
    have cne1_9 := kk9 _ _ cne1_8 xne1
    have cne2_9 := kk9 _ _ cne2_8 xne2
    have cne3_9 := kk9 _ _ cne3_8 xne3
    have kp9 := Kp.trans kp8 kk9
    generalize (upd (upd H8 nl3 (.lst M.dels)) y (.ins T.C_State dz (putF "_deliveries" (.ref nl3) (putF "_waiting" (.ref ne3) (putF "_taken" (.ref ne2) (putF "_returned" (.ref ne1) (putF "_transfers" (.ref nl2) (putF "_stopped" (.bl M.stopped) (putF "_stops" (.int M.stops) (putF "_sets" (.ref nl1) (putF "_height" (.int M.height) gs))))))))))) = H9 at hx9 kk9 kp9 cnl1_9 cnl2_9 cne1_9 cne2_9 cne3_9 cnl3_9 ⊢
    clear kk9
    have sm9 : Same H H9 := fun b o q => kp9 _ _ (sm0 _ _ q) (ne_of_none q ny0)
    walk_at "my_rd"
    have hS9 : ShAt T.C_Sheet H9 sh S' := hS0.keep (fun o q => kp9 _ _ q nsy) (fun b hb o q => kp9 _ _ q (foot0 b hb))
    refine k y H9 ⟨M.cf, M.side, sh, S', M.height, M.stops, M.stopped, nl1, nl2, nl3, ne1, ne2, ne3, M.sets, M.trs, M.dels, M.ret, M.tak, M.wai⟩ ny0 ⟨⟨⟨dz, _, hx9, ?_, ?_, ?_, ?_, ?_, ?_, ?_, ?_, ?_, ?_, ?_, ?_, ?_, len9⟩, cnl1_9, cnl2_9, cnl3_9, cne1_9, cne2_9, cne3_9, ⟨dnl1_nl2, dnl1_nl3, dnl2_nl3⟩, ⟨dne1_ne2, dne1_ne3, dne2_ne3⟩⟩, hS9, q1.trans hM.cf, nsy.symm, fun b hb => ⟨fun (e : b = ne1) => sf0 _ wne1 (e ▸ hb), fun (e : b = ne2) => sf0 _ wne2 (e ▸ hb), fun (e : b = ne3) => sf0 _ wne3 (e ▸ hb)⟩⟩ ⟨rfl, rfl, rfl, rfl, rfl, rfl, rfl, rfl, rfl, rfl, rfl, q2, q3, q4, q5⟩ ?_ sm9
    · rw [lookup_putF, if_neg (by decide +kernel), lookup_putF, if_neg (by decide +kernel), lookup_putF, if_neg (by decide +kernel), lookup_putF, if_neg (by decide +kernel), lookup_putF, if_neg (by decide +kernel), lookup_putF, if_neg (by decide +kernel), lookup_putF, if_neg (by decide +kernel), lookup_putF, if_neg (by decide +kernel), lookup_putF, if_neg (by decide +kernel)]; exact g1
    · rw [lookup_putF, if_neg (by decide +kernel), lookup_putF, if_neg (by decide +kernel), lookup_putF, if_neg (by decide +kernel), lookup_putF, if_neg (by decide +kernel), lookup_putF, if_neg (by decide +kernel), lookup_putF, if_neg (by decide +kernel), lookup_putF, if_neg (by decide +kernel), lookup_putF, if_neg (by decide +kernel), lookup_putF, if_neg (by decide +kernel)]; exact g2
    · rw [lookup_putF, if_neg (by decide +kernel), lookup_putF, if_neg (by decide +kernel), lookup_putF, if_neg (by decide +kernel), lookup_putF, if_neg (by decide +kernel), lookup_putF, if_neg (by decide +kernel), lookup_putF, if_neg (by decide +kernel), lookup_putF, if_neg (by decide +kernel), lookup_putF, if_neg (by decide +kernel), lookup_putF, if_neg (by decide +kernel)]; exact g3
    · (repeat first | rfl | rw [lookup_putF, if_pos rfl] | rw [lookup_putF, if_neg (by decide +kernel)])
    · (repeat first | rfl | rw [lookup_putF, if_pos rfl] | rw [lookup_putF, if_neg (by decide +kernel)])
    · (repeat first | rfl | rw [lookup_putF, if_pos rfl] | rw [lookup_putF, if_neg (by decide +kernel)])
    · (repeat first | rfl | rw [lookup_putF, if_pos rfl] | rw [lookup_putF, if_neg (by decide +kernel)])
    · (repeat first | rfl | rw [lookup_putF, if_pos rfl] | rw [lookup_putF, if_neg (by decide +kernel)])
    · (repeat first | rfl | rw [lookup_putF, if_pos rfl] | rw [lookup_putF, if_neg (by decide +kernel)])
    · (repeat first | rfl | rw [lookup_putF, if_pos rfl] | rw [lookup_putF, if_neg (by decide +kernel)])
    · (repeat first | rfl | rw [lookup_putF, if_pos rfl] | rw [lookup_putF, if_neg (by decide +kernel)])
    · (repeat first | rfl | rw [lookup_putF, if_pos rfl] | rw [lookup_putF, if_neg (by decide +kernel)])
    · intro m hm
      have hne : ∀ z ∈ stNames, ¬ m = z := fun z hz e => hm (e ▸ hz)
      rw [lookup_putF, if_neg (hne _ (by decide +kernel)), lookup_putF, if_neg (hne _ (by decide +kernel)), lookup_putF, if_neg (hne _ (by decide +kernel)), lookup_putF, if_neg (hne _ (by decide +kernel)), lookup_putF, if_neg (hne _ (by decide +kernel)), lookup_putF, if_neg (hne _ (by decide +kernel)), lookup_putF, if_neg (hne _ (by decide +kernel)), lookup_putF, if_neg (hne _ (by decide +kernel)), lookup_putF, if_neg (hne _ (by decide +kernel))]
      exact g13 m hm
    · intro b hb
      rcases all_of hb with e | m | m
      · rw [e]; exact nsh
      · simp only [St0.own, List.mem_cons, List.not_mem_nil, or_false] at m
        rcases m with e | e | e | e | e | e <;> rw [e] <;> exact fresh0 _ (by assumption)
      · exact hf b m
theorem ok_State_rise (T : Txt K mg) : FnOk P w K mg base CX0 1 T.f_State_rise T.d_State_rise ["self"] (sp_stR T.C_State T.C_Sheet) := by
  refine T.F_State_rise.ok sc_State_rise (fun vs H Q E h => ?_) (fun cdv A outer s H vs Q E hr h => ?_)
  · obtain ⟨x, M, rfl, _⟩ := h; rfl
  · obtain ⟨x, M, rfl, hM, k⟩ := h
    obtain ⟨dx, fs, h0, h1, h2, h3, h4, h5, h6, h7, h8, h9, h10, h11, h12, h13, h14⟩ := hM.r.ex
    refine ⟨_, (pss_one (ps_fldaug (pv 0) pe_int in_add)), ?_⟩
    (dsimp only [cxOf, Cx.nox, Cx.wish, L2.start, List.map, List.length, List.replicate, List.cons_append, List.nil_append, List.append_eq, Nat.reduceSub, Nat.reduceAdd])
    walk_at "my_rd"
    refine q_faugK h0 T.cl_State T.n_State_height h4 ?_
    walk_at "my_rd"
    refine q_faugA h0 (by omega) ?_
    walk_at "my_rd"
    have kp : Kp x H (upd H x (.ins T.C_State dx (putF "_height" (.int (M.height + 1)) fs))) := Kp.upd Kp.refl
    have hx : upd H x (.ins T.C_State dx (putF "_height" (.int (M.height + 1)) fs)) x = some (.ins T.C_State dx (putF "_height" (.int (M.height + 1)) fs)) := upd_same
    generalize upd H x (.ins T.C_State dx (putF "_height" (.int (M.height + 1)) fs)) = H1 at kp hx ⊢
    have nf : ∀ b ∈ M.S.foot, b ≠ x := fun b hb => by
      obtain ⟨_, q⟩ := hM.sh.footK hb
      exact ne_of q h0 (by intro z; cases z)
    refine k H1 ⟨⟨⟨dx, _, hx, ?_, ?_, ?_, ?_, ?_, ?_, ?_, ?_, ?_, ?_, ?_, ?_, ?_, ?_⟩, kp _ _ hM.r.a1 (ne_of hM.r.a1 h0 (by intro z; cases z)), kp _ _ hM.r.a2 (ne_of hM.r.a2 h0 (by intro z; cases z)), kp _ _ hM.r.a3 (ne_of hM.r.a3 h0 (by intro z; cases z)), kp _ _ hM.r.b1 (ne_of hM.r.b1 h0 (by intro z; cases z)), kp _ _ hM.r.b2 (ne_of hM.r.b2 h0 (by intro z; cases z)), kp _ _ hM.r.b3 (ne_of hM.r.b3 h0 (by intro z; cases z)), hM.r.s1, hM.r.s2⟩, hM.sh.keep (fun o q => kp _ _ q hM.nx.symm) (fun b hb o q => kp _ _ q (nf b hb)), hM.cf, hM.nx, hM.sf⟩ kp
    · rw [lookup_putF, if_neg (by decide +kernel)]; exact h1
    · rw [lookup_putF, if_neg (by decide +kernel)]; exact h2
    · rw [lookup_putF, if_neg (by decide +kernel)]; exact h3
    · rw [lookup_putF, if_pos rfl]
    · rw [lookup_putF, if_neg (by decide +kernel)]; exact h5
    · rw [lookup_putF, if_neg (by decide +kernel)]; exact h6
    · rw [lookup_putF, if_neg (by decide +kernel)]; exact h7
    · rw [lookup_putF, if_neg (by decide +kernel)]; exact h8
    · rw [lookup_putF, if_neg (by decide +kernel)]; exact h9
    · rw [lookup_putF, if_neg (by decide +kernel)]; exact h10
    · rw [lookup_putF, if_neg (by decide +kernel)]; exact h11
    · rw [lookup_putF, if_neg (by decide +kernel)]; exact h12
    · intro m hm
      have hne : ∀ z ∈ stNames, ¬ m = z := fun z hz e => hm (e ▸ hz)
      rw [lookup_putF, if_neg (hne _ (by decide +kernel))]; exact h13 m hm
    · rw [putF_len h4]; exact h14
theorem ok_opening_state (T : Txt K mg) : FnOk P w K mg base CX0 6 T.f_opening_state T.d_opening_state ["config", "side"] (sp_open T.C_State T.C_Sheet T.C_Config) := by
  refine T.F_opening_state.ok sc_opening_state (fun vs H Q E h => ?_) (fun cdv A outer s H vs Q E hr h => ?_)
  · obtain ⟨cf, g, c, sd, rfl, _⟩ := h; rfl
  · obtain ⟨cf, g, c, sd, rfl, hC, hc, k⟩ := h
    refine ⟨_, (pss_one (ps_ret (pe_make T.mk_State (ok_State_init T) (hr.mono (by decide)) (by rfl) T.g_State T.b_State_init .nil pass0 (pa_cons (pv 0) (pa_cons (pv 1) (pa_cons (pe_make T.mk_Sheet (ok_Sheet_init T) (hr.mono (by decide)) (by rfl) T.g_Sheet T.b_Sheet_init .nil pass0 (pa_cons (pv 0) (pa_cons (pv 1) pa_nil))) pa_nil)))))), ?_⟩
    (dsimp only [cxOf, Cx.nox, Cx.wish, L2.start, List.map, List.length, List.replicate, List.cons_append, List.nil_append, List.append_eq, Nat.reduceSub, Nat.reduceAdd])
    walk_at "my_rd"
    intro z dz nz ndz hnz
    have smM : Same H (upd (upd H dz (.own z)) z (.ins T.C_Sheet dz [])) := Same.up (Same.up (Same.refl _) ndz) (upd_free hnz.symm nz)
    refine ⟨z, dz, cf, g, c, sd, rfl, upd_same, hC.same smM, hc, fun Ha S hS q1 q2 q3 q4 q5 hf kpz => ⟨rfl, ?_⟩⟩
    have sma : Same H Ha := fun b o q => kpz b o (smM _ _ q) (ne_of_none q nz)
    have hf0 : ∀ b ∈ S.foot, H b = none := fun b hb => Same.free smM (hf b hb)
    clear smM kpz hf
    walk_at "my_rd"
    intro y dy ny ndy hne
    have ny0 : H y = none := Same.free sma ny
    have smM : Same Ha (upd (upd Ha dy (.own y)) y (.ins T.C_State dy [])) := Same.up (Same.up (Same.refl _) ndy) (upd_free hne.symm ny)
    have nsy : z ≠ y := by
      obtain ⟨_, _, q, _⟩ := hS.ex
      exact ne_of_none q ny
    have foot0 : ∀ b ∈ S.foot, b ≠ y := fun b hb => by
      obtain ⟨_, q⟩ := hS.footK hb
      exact ne_of_none q ny
    refine ⟨y, dy, cf, g, z, c, sd, S, rfl, upd_same, (hC.same sma).same smM, fun H0 l1 l2 l3 e1 e2 e3 hR0 hfr kpI => ⟨rfl, ?_⟩⟩
    have hS0 : ShAt T.C_Sheet H0 z S := hS.keep (fun o q => kpI _ _ (smM _ _ q) nsy) (fun b hb o q => kpI _ _ (smM _ _ q) (foot0 b hb))
    have sm0 : Same H H0 := fun b o q => kpI b o (smM _ _ (sma _ _ q)) (ne_of_none (sma _ _ q) ny)
    have fr2 : ∀ b ∈ [l1, l2, l3, e1, e2, e3], Ha b = none := fun b hb => Same.free smM (hfr b hb)
    have sf0 : ∀ b ∈ [l1, l2, l3, e1, e2, e3], b ∉ S.foot := fun b hb m => by
      obtain ⟨_, q⟩ := hS.footK m
      rw [fr2 b hb] at q; cases q
    refine k y H0 ⟨cf, sd, z, S, 0, 0, false, l1, l2, l3, e1, e2, e3, [.ref g], [], [], [], [], []⟩ ny0 ⟨hR0, hS0, q1, nsy.symm, fun b hb => ⟨fun e => sf0 _ (by simp) (e ▸ hb), fun e => sf0 _ (by simp) (e ▸ hb), fun e => sf0 _ (by simp) (e ▸ hb)⟩⟩ ⟨rfl, rfl, rfl, rfl, rfl, rfl, rfl, rfl, rfl, rfl, rfl, q2, q3, q4, q5⟩ (fun b hb => ?_) sm0
    rcases all_of hb with e | m | m
    · rw [e]; exact nz
    · exact Same.free sma (fr2 b m)
    · exact hf0 b m
theorem ok_next_height (T : Txt K mg) : FnOk P w K mg base CX0 8 T.f_next_height T.d_next_height ["state"] (sp_nh T.C_State T.C_Sheet T.C_Config) := by
  refine T.F_next_height.ok sc_next_height (fun vs H Q E h => ?_) (fun cdv A outer s H vs Q E hr h => ?_)
  · obtain ⟨x, g, M, c, rfl, _⟩ := h; rfl
  · obtain ⟨x, g, M, c, rfl, hM, hC, hc, hG, k⟩ := h
    obtain ⟨dx, fs, h0, _, _, _, _, _, _, _, _, _, _, _, _, h13, _⟩ := id hM.r.ex
    refine ⟨_, (pss_cons (ps_set (i := 1) sc_next_height.nd rfl (Or.inl rfl) (pe_meth0 (pv 0) T.cl_State T.m_State_copy (ok_State_copy T) (hr.mono (by decide)) T.b_State_copy .nil pass0))
      (pss_cons (ps_expr (pe_meth0 (pv 1) T.cl_State T.m_State_rise (ok_State_rise T) (hr.mono (by decide)) T.b_State_rise .nil pass0))
      (pss_one (ps_ret (pv 1))))), ?_⟩
    (dsimp only [cxOf, Cx.nox, Cx.wish, L2.start, List.map, List.length, List.replicate, List.cons_append, List.nil_append, List.append_eq, Nat.reduceSub, Nat.reduceAdd])
    walk_at "my_rd"
    refine q_methK h0 (h13 _ no_st.1) fun R hR => ?_
    walk_at "my_rd"
    refine hR _ _ ⟨x, g, M, c, rfl, hM, hC, hc, hG, fun y H1 M1 ny hM1 e1 hf sm1 => ?_⟩
    clear hR
    obtain ⟨dy, gs, g0, _, _, _, _, _, _, _, _, _, _, _, _, g13, _⟩ := id hM1.r.ex
    walk_at "my_rd"
    refine q_methK g0 (g13 _ no_st.2.1) fun R hR => ?_
    walk_at "my_rd"
    refine hR _ _ ⟨y, M1, rfl, hM1, fun H2 hM2 kp2 => ?_⟩
    clear hR
    walk_at "my_rd"
    exact k y H2 _ ny hM2 ⟨e1.cf, e1.side, congrArg (· + 1) e1.height, e1.stops, e1.stopped, e1.sets, e1.trs, e1.dels, e1.ret, e1.tak, e1.wai, e1.ss, e1.bal, e1.bon, e1.vau⟩ hf fun b o q => kp2 _ _ (sm1 _ _ q) (ne_of_none q ny)
end

local macro_rules | `(tactic| walk_at "my_rd") => `(tactic| (repeat first
  | with_reducible refine q_tCons ?_
  | ((with_reducible apply q_var); (focus (exact rfl)))
  | with_reducible refine q_c ?_
  | ((with_reducible apply q_nxE); (focus (with_reducible exact rfl)))
  | with_reducible refine q_bK ?_
  | with_reducible refine q_call ?_
  | with_reducible refine q_callK ?_
  | with_reducible refine q_tNil ?_
  | with_reducible refine q_cb ?_
  | with_reducible refine q_seq ?_
  | with_reducible refine q_asg ?_
  | with_reducible refine q_gName ?_
  | with_reducible refine q_op ?_
  | with_reducible refine q_test ?_
  | with_reducible refine q_tB ?_
  | with_reducible refine q_ifS ?_
  | with_reducible refine q_ret ?_
  | ((with_reducible apply q_rtE); (focus (with_reducible exact rfl)))
  | with_reducible refine q_next ?_
  | with_reducible refine q_ifF ?_
  | with_reducible refine q_ifT ?_
  | with_reducible refine q_drop ?_
  | with_reducible refine q_and ?_
  | with_reducible refine q_or ?_
  | with_reducible refine q_andT ?_
  | with_reducible refine q_andF ?_
  | with_reducible refine q_orF ?_
  | with_reducible refine q_orT ?_
  | with_reducible refine q_andV ?_
  | with_reducible refine q_andVT ?_
  | with_reducible refine q_andVF ?_
  | with_reducible refine q_orV ?_
  | with_reducible refine q_gCons ?_
  | with_reducible refine q_gNil ?_
  | with_reducible refine q_tup ?_
  | with_reducible refine q_lst ?_
  | with_reducible refine q_not ?_
  | with_reducible refine q_notKT ?_
  | with_reducible refine q_notKF ?_
  | with_reducible refine q_I0 ?_
  | with_reducible refine q_eqI ?_
  | with_reducible refine q_neI ?_
  | ((with_reducible refine q_I ?_ ?_); first | decide | omega | exact ⟨by omega, by omega⟩ | exact ⟨by decide, by decide⟩ | exact .inl ⟨by omega, by omega⟩ | exact .inr ⟨by omega, by omega⟩ | exact .inr ⟨by decide, by decide⟩)
  | with_reducible refine q_eqS ?_
  | with_reducible refine q_neS ?_
  | with_reducible refine q_brk ?_
  | with_reducible refine q_ct ?_
  | ((with_reducible apply q_bkE); (focus (with_reducible exact rfl)))
  | ((with_reducible apply q_cnE); (focus (with_reducible exact rfl)))
  | with_reducible refine q_retN ?_
  | with_reducible refine q_gSub ?_
  | with_reducible refine q_for ?_
  | with_reducible refine q_iList ?_
  | with_reducible refine q_iTup ?_
  | with_reducible refine q_iRng1 ?_
  | with_reducible refine q_notK ?_
  | with_reducible refine q_orVT ?_
  | with_reducible refine q_orVF ?_
  | with_reducible refine q_notV ?_
  | with_reducible refine q_notVK ?_
  | with_reducible refine q_ifE ?_
  | with_reducible refine q_ifET ?_
  | with_reducible refine q_ifEF ?_
  | with_reducible refine q_yes ?_
  | with_reducible refine q_un ?_
  | with_reducible refine q_rU ?_
  | with_reducible refine q_abs ?_
  | with_reducible refine q_int1 ?_
  | with_reducible refine q_bm ?_
  | with_reducible refine q_bm0 ?_
  | with_reducible refine q_lc ?_
  | with_reducible refine q_keepT ?_
  | with_reducible refine q_keepF ?_
  | ((with_reducible apply q_aug); (focus (exact rfl)))
  | with_reducible refine q_ipI ?_
  | with_reducible refine q_chain ?_
  | with_reducible refine q_pairC ?_
  | with_reducible refine q_pairsK ?_
  | with_reducible refine q_pairN ?_
  | with_reducible refine q_fld ?_
  | with_reducible refine q_sFld ?_
  | with_reducible refine q_meth ?_
  | with_reducible refine q_makeK ?_
  | with_reducible refine q_isBl ?_
  | with_reducible refine q_notBl ?_
  | with_reducible refine q_sl ?_
  | with_reducible refine q_noPart ?_
  | with_reducible refine q_part ?_
  | with_reducible refine q_partK ?_
  | ((with_reducible apply q_mulStr); (focus (decide +kernel)))
  | with_reducible refine q_chT ?_
  | with_reducible refine q_chF ?_
  | with_reducible refine q_ord ?_
  | with_reducible refine q_iStr0 ?_
  | with_reducible refine q_iStr ?_
  | with_reducible refine q_tDIn ?_
  | with_reducible refine q_tDNotIn ?_
  | with_reducible refine q_tDGet ?_
  | with_reducible refine q_tDGet2 ?_
  | with_reducible refine q_tDGet1 ?_
  | with_reducible refine q_tDSetd ?_
  | ((with_reducible apply q_dG2a); (focus ((repeat first | (with_reducible exact upd_same) | (with_reducible assumption) | (with_reducible apply upd_new (by assumption)) | (with_reducible apply upd_other (by first | assumption | exact Ne.symm (by assumption))) | (with_reducible refine' Kp.get (by assumption) ?_ (by first | assumption | exact Ne.symm (by assumption))) | (with_reducible apply Same.get (by assumption))); done)))
  | ((with_reducible apply q_dSda); (focus ((repeat first | (with_reducible exact upd_same) | (with_reducible assumption) | (with_reducible apply upd_new (by assumption)) | (with_reducible apply upd_other (by first | assumption | exact Ne.symm (by assumption))) | (with_reducible refine' Kp.get (by assumption) ?_ (by first | assumption | exact Ne.symm (by assumption))) | (with_reducible apply Same.get (by assumption))); done)))
  | with_reducible refine q_sDPut ?_
  | ((with_reducible apply q_dInS); (focus ((repeat first | (with_reducible exact upd_same) | (with_reducible assumption) | (with_reducible apply upd_new (by assumption)) | (with_reducible apply upd_other (by first | assumption | exact Ne.symm (by assumption))) | (with_reducible refine' Kp.get (by assumption) ?_ (by first | assumption | exact Ne.symm (by assumption))) | (with_reducible apply Same.get (by assumption))); done)))
  | ((with_reducible apply q_dNInS); (focus ((repeat first | (with_reducible exact upd_same) | (with_reducible assumption) | (with_reducible apply upd_new (by assumption)) | (with_reducible apply upd_other (by first | assumption | exact Ne.symm (by assumption))) | (with_reducible refine' Kp.get (by assumption) ?_ (by first | assumption | exact Ne.symm (by assumption))) | (with_reducible apply Same.get (by assumption))); done)))
  | ((with_reducible apply q_dInI); (focus ((repeat first | (with_reducible exact upd_same) | (with_reducible assumption) | (with_reducible apply upd_new (by assumption)) | (with_reducible apply upd_other (by first | assumption | exact Ne.symm (by assumption))) | (with_reducible refine' Kp.get (by assumption) ?_ (by first | assumption | exact Ne.symm (by assumption))) | (with_reducible apply Same.get (by assumption))); done)))
  | ((with_reducible apply q_dNInI); (focus ((repeat first | (with_reducible exact upd_same) | (with_reducible assumption) | (with_reducible apply upd_new (by assumption)) | (with_reducible apply upd_other (by first | assumption | exact Ne.symm (by assumption))) | (with_reducible refine' Kp.get (by assumption) ?_ (by first | assumption | exact Ne.symm (by assumption))) | (with_reducible apply Same.get (by assumption))); done)))
  | ((with_reducible apply q_bmL); (focus ((repeat first | (with_reducible exact upd_same) | (with_reducible assumption) | (with_reducible apply upd_new (by assumption)) | (with_reducible apply upd_other (by first | assumption | exact Ne.symm (by assumption))) | (with_reducible refine' Kp.get (by assumption) ?_ (by first | assumption | exact Ne.symm (by assumption))) | (with_reducible apply Same.get (by assumption))); done)))
  | ((with_reducible apply q_bmL0); (focus ((repeat first | (with_reducible exact upd_same) | (with_reducible assumption) | (with_reducible apply upd_new (by assumption)) | (with_reducible apply upd_other (by first | assumption | exact Ne.symm (by assumption))) | (with_reducible refine' Kp.get (by assumption) ?_ (by first | assumption | exact Ne.symm (by assumption))) | (with_reducible apply Same.get (by assumption))); done)))
  | ((with_reducible apply q_ixLt); (focus ((repeat first | (with_reducible exact upd_same) | (with_reducible assumption) | (with_reducible apply upd_new (by assumption)) | (with_reducible apply upd_other (by first | assumption | exact Ne.symm (by assumption))) | (with_reducible refine' Kp.get (by assumption) ?_ (by first | assumption | exact Ne.symm (by assumption))) | (with_reducible apply Same.get (by assumption))); done)); (focus (exact rfl)))
  | ((with_reducible apply q_ixTt); (focus ((repeat first | (with_reducible exact upd_same) | (with_reducible assumption) | (with_reducible apply upd_new (by assumption)) | (with_reducible apply upd_other (by first | assumption | exact Ne.symm (by assumption))) | (with_reducible refine' Kp.get (by assumption) ?_ (by first | assumption | exact Ne.symm (by assumption))) | (with_reducible apply Same.get (by assumption))); done)); (focus (exact rfl)))
  | ((with_reducible apply q_lenLt); (focus ((repeat first | (with_reducible exact upd_same) | (with_reducible assumption) | (with_reducible apply upd_new (by assumption)) | (with_reducible apply upd_other (by first | assumption | exact Ne.symm (by assumption))) | (with_reducible refine' Kp.get (by assumption) ?_ (by first | assumption | exact Ne.symm (by assumption))) | (with_reducible apply Same.get (by assumption))); done)))
  | ((with_reducible apply q_lenTt); (focus ((repeat first | (with_reducible exact upd_same) | (with_reducible assumption) | (with_reducible apply upd_new (by assumption)) | (with_reducible apply upd_other (by first | assumption | exact Ne.symm (by assumption))) | (with_reducible refine' Kp.get (by assumption) ?_ (by first | assumption | exact Ne.symm (by assumption))) | (with_reducible apply Same.get (by assumption))); done)))
  | ((with_reducible apply q_append); (focus ((repeat first | (with_reducible exact upd_same) | (with_reducible assumption) | (with_reducible apply upd_new (by assumption)) | (with_reducible apply upd_other (by first | assumption | exact Ne.symm (by assumption))) | (with_reducible refine' Kp.get (by assumption) ?_ (by first | assumption | exact Ne.symm (by assumption))) | (with_reducible apply Same.get (by assumption))); done)); (focus ((first | (exact Nat.lt_of_ble_eq_true rfl) | (simp only [List.length_append, List.length_cons, List.length_nil, List.length_map]; exact small1000 (by omega))))))
  | ((with_reducible apply q_setL); (focus ((repeat first | (with_reducible exact upd_same) | (with_reducible assumption) | (with_reducible apply upd_new (by assumption)) | (with_reducible apply upd_other (by first | assumption | exact Ne.symm (by assumption))) | (with_reducible refine' Kp.get (by assumption) ?_ (by first | assumption | exact Ne.symm (by assumption))) | (with_reducible apply Same.get (by assumption))); done)); (focus (exact rfl)))
  | with_reducible refine q_ifNT ?_
  | with_reducible refine q_ifNF ?_
  | with_reducible refine q_andNT ?_
  | with_reducible refine q_andNF ?_
  | with_reducible refine q_orNT ?_
  | with_reducible refine q_orNF ?_
  | with_reducible refine q_bKNT ?_
  | with_reducible refine q_bKNF ?_
  | with_reducible refine q_tNGet ?_
  | with_reducible refine q_tNIn ?_
  | with_reducible refine q_sNPut ?_
  | with_reducible refine q_sFldAug ?_
  | with_reducible refine q_sDAug ?_
  | with_reducible refine q_sDDel ?_
  | with_reducible refine q_forX ?_
  | with_reducible refine q_tMake ?_
  | ((with_reducible apply q_dG1a); (focus ((repeat first | (with_reducible exact upd_same) | (with_reducible assumption) | (with_reducible apply upd_new (by assumption)) | (with_reducible apply upd_other (by first | assumption | exact Ne.symm (by assumption))) | (with_reducible refine' Kp.get (by assumption) ?_ (by first | assumption | exact Ne.symm (by assumption))) | (with_reducible apply Same.get (by assumption))); done)))))
/-! trees of blocks -/
structure Nd where
  n : Int
  p : Option Int
  h : Nat
abbrev Tre := List Nd
def nums (t : Tre) : List Int := t.map Nd.n
def fnd (t : Tre) (n : Int) : Option Nd := t.find? fun d => decide (d.n = n)
def up (t : Tre) (n : Int) : Int := ((fnd t n).bind Nd.p).getD n
def hgt (t : Tre) (n : Int) : Nat := ((fnd t n).map Nd.h).getD 0
def ups (t : Tre) : Nat → Int → Int
  | 0, n => n
  | k + 1, n => ups t k (up t n)
/-- the block of the line that has this height, or the block itself -/
def anc (t : Tre) (n : Int) (h : Nat) : Int := ups t (hgt t n - h) n
structure TOk (t : Tre) : Prop where
  nd : (nums t).Nodup
  rt : (⟨0, none, 0⟩ : Nd) ∈ t
  par : ∀ d ∈ t, d.n ≠ 0 → ∃ e ∈ t, d.p = some e.n ∧ d.h = e.h + 1
  lt : ∀ d ∈ t, d.h < t.length
theorem fnd_mem {t : Tre} (h : (nums t).Nodup) {d : Nd} (m : d ∈ t) : fnd t d.n = some d := by
  induction t with
  | nil => cases m
  | cons a t ih =>
    unfold nums at h ih
    rw [List.map_cons, List.nodup_cons] at h
    unfold fnd at ih ⊢
    rw [List.find?_cons]
    rcases List.mem_cons.mp m with e | m
    · subst e; rw [decide_eq_true rfl]
    · have : a.n ≠ d.n := fun e => h.1 (e ▸ List.mem_map.mpr ⟨d, m, rfl⟩)
      rw [decide_eq_false this]
      exact ih h.2 m
theorem fnd_of {t : Tre} {n : Int} (h : n ∈ nums t) : ∃ d, d ∈ t ∧ d.n = n ∧ fnd t n = some d := by
  unfold fnd
  cases q : t.find? fun d => decide (d.n = n) with
  | some d => exact ⟨d, List.mem_of_find?_eq_some q, by simpa using List.find?_some q, rfl⟩
  | none =>
    rw [List.find?_eq_none] at q
    obtain ⟨d, m, e⟩ := List.mem_map.mp h
    exact absurd e (by simpa using q d m)
theorem fnd_no {t : Tre} {n : Int} (h : n ∉ nums t) : fnd t n = none := by
  unfold fnd
  rw [List.find?_eq_none]
  intro d m e
  exact h (List.mem_map.mpr ⟨d, m, by simpa using e⟩)
theorem mem_nums {t : Tre} {d : Nd} (m : d ∈ t) : d.n ∈ nums t := List.mem_map.mpr ⟨d, m, rfl⟩
section
variable {t : Tre} {n m : Int} {h k : Nat}
theorem hgt_d (o : (nums t).Nodup) {d : Nd} (m : d ∈ t) : hgt t d.n = d.h := by unfold hgt; rw [fnd_mem o m]; rfl
theorem TOk.root (o : TOk t) : fnd t 0 = some ⟨0, none, 0⟩ := fnd_mem o.nd o.rt
theorem TOk.hgt0 (o : TOk t) : hgt t 0 = 0 := by unfold hgt; rw [o.root]; rfl
theorem TOk.zero (o : TOk t) : (0 : Int) ∈ nums t := mem_nums o.rt
theorem TOk.hlt (o : TOk t) (i : n ∈ nums t) : hgt t n < t.length := by
  obtain ⟨d, m, rfl, _⟩ := fnd_of i
  rw [hgt_d o.nd m]; exact o.lt d m
theorem TOk.up_ne (o : TOk t) (i : n ∈ nums t) (hn : n ≠ 0) : up t n ∈ nums t ∧ hgt t n = hgt t (up t n) + 1 ∧ (fnd t n).bind Nd.p = some (up t n) := by
  obtain ⟨d, m, rfl, e⟩ := fnd_of i
  obtain ⟨e', m', q1, q2⟩ := o.par d m hn
  have hu : up t d.n = e'.n := by unfold up; rw [e]; show (d.p).getD _ = _; rw [q1]; rfl
  rw [hu, hgt_d o.nd m, hgt_d o.nd m', e]
  exact ⟨mem_nums m', q2, q1⟩
theorem TOk.up_0 (o : TOk t) : up t 0 = 0 ∧ (fnd t 0).bind Nd.p = none := by
  unfold up; rw [o.root]; exact ⟨rfl, rfl⟩
theorem TOk.up_mem (o : TOk t) (i : n ∈ nums t) : up t n ∈ nums t := by
  by_cases e : n = 0
  · subst e; rw [o.up_0.1]; exact o.zero
  · exact (o.up_ne i e).1
theorem TOk.up_h (o : TOk t) (i : n ∈ nums t) : hgt t (up t n) = hgt t n - 1 := by
  by_cases e : n = 0
  · subst e; rw [o.up_0.1, o.hgt0]
  · have := (o.up_ne i e).2.1; omega
theorem TOk.h_zero (o : TOk t) (i : n ∈ nums t) : hgt t n = 0 ↔ n = 0 := by
  constructor
  · intro q
    by_cases e : n = 0
    · exact e
    · have := (o.up_ne i e).2.1; omega
  · rintro rfl; exact o.hgt0
theorem TOk.ups_mem (o : TOk t) : ∀ (k : Nat) {n : Int}, n ∈ nums t → ups t k n ∈ nums t ∧ hgt t (ups t k n) = hgt t n - k
  | 0, n, i => ⟨i, rfl⟩
  | k + 1, n, i => by
    obtain ⟨a, b⟩ := o.ups_mem k (o.up_mem i)
    refine ⟨a, ?_⟩
    show hgt t (ups t k (up t n)) = _
    rw [b, o.up_h i]; omega
theorem ups_add (t : Tre) : ∀ (a b : Nat) (n : Int), ups t (a + b) n = ups t b (ups t a n)
  | 0, b, n => by rw [Nat.zero_add]; rfl
  | a + 1, b, n => by rw [Nat.succ_add]; exact ups_add t a b (up t n)
theorem TOk.anc_mem (o : TOk t) (i : n ∈ nums t) (h : Nat) : anc t n h ∈ nums t := (o.ups_mem _ i).1
theorem TOk.anc_h (o : TOk t) (i : n ∈ nums t) (q : h ≤ hgt t n) : hgt t (anc t n h) = h := by
  unfold anc; rw [(o.ups_mem _ i).2]; omega
theorem anc_self (q : hgt t n ≤ h) : anc t n h = n := by unfold anc; rw [Nat.sub_eq_zero_of_le q]; rfl
theorem TOk.anc_anc (o : TOk t) (i : n ∈ nums t) (q : k ≤ h) : anc t (anc t n h) k = anc t n k := by
  by_cases c : hgt t n ≤ h
  · rw [anc_self c]
  · have e := o.anc_h i (show h ≤ hgt t n by omega)
    unfold anc at e ⊢
    rw [e, ← ups_add]
    congr 1; omega
theorem TOk.anc_up (o : TOk t) (i : n ∈ nums t) (q : h < hgt t n) : anc t n h = anc t (up t n) h := by
  unfold anc
  rw [o.up_h i, show hgt t n - h = (hgt t n - 1 - h) + 1 by omega]; rfl
theorem TOk.anc_0 (o : TOk t) (i : n ∈ nums t) : anc t n 0 = 0 := by
  rw [← o.h_zero (o.anc_mem i 0), o.anc_h i (Nat.zero_le _)]
end
/-! one block more -/
def addT (t : Tre) (n m : Int) : Tre := t ++ [⟨n, some m, hgt t m + 1⟩]
theorem nums_add (t : Tre) (n m : Int) : nums (addT t n m) = nums t ++ [n] := by simp [nums, addT]
section
variable {t : Tre} {n m k : Int} {h : Nat}
theorem fnd_old (i : k ∈ nums t) : fnd (addT t n m) k = fnd t k := by
  obtain ⟨d, _, _, e⟩ := fnd_of i
  rw [e]
  unfold fnd at e ⊢
  unfold addT
  rw [List.find?_append, e]; rfl
theorem fnd_new (i : n ∉ nums t) : fnd (addT t n m) n = some ⟨n, some m, hgt t m + 1⟩ := by
  have e := fnd_no i
  unfold fnd at e ⊢
  unfold addT
  rw [List.find?_append, e]; simp
theorem hgt_old (i : k ∈ nums t) : hgt (addT t n m) k = hgt t k := by unfold hgt; rw [fnd_old i]
theorem up_old (i : k ∈ nums t) : up (addT t n m) k = up t k := by unfold up; rw [fnd_old i]
theorem hgt_new (i : n ∉ nums t) : hgt (addT t n m) n = hgt t m + 1 := by
  show ((fnd (addT t n m) n).map Nd.h).getD 0 = _; rw [fnd_new i]; rfl
theorem up_new' (i : n ∉ nums t) : up (addT t n m) n = m := by unfold up; rw [fnd_new i]; rfl
theorem TOk.ups_old (o : TOk t) : ∀ (j : Nat) {k : Int}, k ∈ nums t → ups (addT t n m) j k = ups t j k
  | 0, _, _ => rfl
  | j + 1, k, i => by
    show ups _ j (up _ k) = ups t j (up t k)
    rw [up_old i]; exact o.ups_old j (o.up_mem i)
theorem TOk.anc_old (o : TOk t) (i : k ∈ nums t) : anc (addT t n m) k h = anc t k h := by
  unfold anc; rw [hgt_old i]; exact o.ups_old _ i
theorem TOk.anc_new (o : TOk t) (i : n ∉ nums t) (j : m ∈ nums t) (q : h ≤ hgt t m) : anc (addT t n m) n h = anc t m h := by
  unfold anc
  rw [hgt_new i, show hgt t m + 1 - h = (hgt t m - h) + 1 by omega]
  show ups _ _ (up _ n) = _
  rw [up_new' i]; exact o.ups_old _ j
theorem anc_top (i : n ∉ nums t) (q : hgt t m < h) : anc (addT t n m) n h = n := anc_self (by rw [hgt_new i]; exact q)
theorem TOk.add (o : TOk t) (i : n ∉ nums t) (j : m ∈ nums t) : TOk (addT t n m) := by
  refine ⟨?_, List.mem_append.mpr (.inl o.rt), fun d hd hn => ?_, fun d hd => ?_⟩
  · rw [nums_add, List.nodup_append]
    exact ⟨o.nd, by simp, fun a ha b hb e => by rw [List.mem_singleton.mp hb] at e; exact i (e ▸ ha)⟩
  · rcases List.mem_append.mp hd with q | q
    · obtain ⟨e, a, b, c⟩ := o.par d q hn
      exact ⟨e, List.mem_append.mpr (.inl a), b, c⟩
    · rw [List.mem_singleton.mp q]
      obtain ⟨e, a, b, _⟩ := fnd_of j
      exact ⟨e, List.mem_append.mpr (.inl a), by rw [b], by rw [← b, hgt_d o.nd a]⟩
  · have : (addT t n m).length = t.length + 1 := by simp [addT]
    rw [this]
    rcases List.mem_append.mp hd with q | q
    · exact Nat.lt_succ_of_lt (o.lt d q)
    · rw [List.mem_singleton.mp q]
      have := o.hlt j
      show hgt t m + 1 < _
      omega
end
/-! the final block -/
structure BkM where
  t : Tre
  tips : List Int
  fin : Int
  dep : Nat
def BkM.live (B : BkM) (n : Int) : Prop := anc B.t n (hgt B.t B.fin) = B.fin
def BkM.add (B : BkM) (n m : Int) : BkM where
  t := addT B.t n m
  tips := B.tips.filter (fun k => !decide (k = m)) ++ [n]
  fin := if hgt B.t B.fin + B.dep < hgt B.t m + 1 then anc (addT B.t n m) n (hgt B.t m + 1 - B.dep) else B.fin
  dep := B.dep
structure BOk (B : BkM) : Prop where
  t : TOk B.t
  f : B.fin ∈ nums B.t
  dp : 1 ≤ B.dep
  tn : B.tips.Nodup
  tl : B.tips.length ≤ B.t.length
  tp : ∀ n, n ∈ B.tips ↔ n ∈ nums B.t ∧ ∀ d ∈ B.t, d.p ≠ some n
  f1 : ∀ n ∈ nums B.t, hgt B.t n ≤ hgt B.t B.fin + B.dep
  f2 : ∀ n ∈ nums B.t, B.dep ≤ hgt B.t n → anc B.t n (hgt B.t n - B.dep) = anc B.t B.fin (hgt B.t n - B.dep)
  f3 : B.fin = 0 ∨ ∃ n ∈ nums B.t, hgt B.t n = hgt B.t B.fin + B.dep ∧ B.live n
theorem BOk.tsub {B : BkM} (o : BOk B) : ∀ n ∈ B.tips, n ∈ nums B.t := fun n h => ((o.tp n).mp h).1
theorem BOk.first (d : Nat) (h : 1 ≤ d) : BOk ⟨[⟨0, none, 0⟩], [0], 0, d⟩ := by
  refine ⟨⟨by simp [nums], by simp, fun e he hn => ?_, fun e he => ?_⟩, by simp [nums], h, by simp, Nat.le_refl _, fun n => ?_, fun n hn => ?_, fun n hn hd => ?_, .inl rfl⟩
  · rw [List.mem_singleton.mp he] at hn; exact absurd rfl hn
  · rw [List.mem_singleton.mp he]; exact Nat.zero_lt_one
  · simp [nums]
  · have : n = 0 := by simpa [nums] using hn
    subst this
    show hgt _ 0 ≤ hgt _ 0 + d
    omega
  · have : n = 0 := by simpa [nums] using hn
    subst this; rfl
/-- the final block after one more lies above the one before -/
theorem BOk.fin_up {B : BkM} (o : BOk B) {n m : Int} (i : n ∉ nums B.t) (j : m ∈ nums B.t) (l : B.live m) :
    (B.add n m).fin ∈ nums (B.add n m).t ∧ hgt B.t B.fin ≤ hgt (B.add n m).t (B.add n m).fin ∧ anc (B.add n m).t (B.add n m).fin (hgt B.t B.fin) = B.fin ∧
    (hgt B.t m + 1 ≤ hgt (B.add n m).t (B.add n m).fin + B.dep) ∧ anc (B.add n m).t n (hgt (B.add n m).t (B.add n m).fin) = (B.add n m).fin ∧
    ((B.add n m).fin = B.fin ∨ hgt B.t m + 1 = hgt (B.add n m).t (B.add n m).fin + B.dep) := by
  have ot := o.t.add i j
  have in' : n ∈ nums (addT B.t n m) := by rw [nums_add]; simp
  have hn := hgt_new (m := m) i
  have hd := o.dp
  have hm : hgt B.t B.fin ≤ hgt B.t m := by
    have q := l
    unfold BkM.live at q
    have := (o.t.ups_mem (hgt B.t m - hgt B.t B.fin) j).2
    unfold anc at q
    rw [q] at this; omega
  show (if hgt B.t B.fin + B.dep < hgt B.t m + 1 then anc (addT B.t n m) n (hgt B.t m + 1 - B.dep) else B.fin) ∈ nums (addT B.t n m) ∧
    hgt B.t B.fin ≤ hgt (addT B.t n m) (if hgt B.t B.fin + B.dep < hgt B.t m + 1 then anc (addT B.t n m) n (hgt B.t m + 1 - B.dep) else B.fin) ∧
    anc (addT B.t n m) (if hgt B.t B.fin + B.dep < hgt B.t m + 1 then anc (addT B.t n m) n (hgt B.t m + 1 - B.dep) else B.fin) (hgt B.t B.fin) = B.fin ∧
    (hgt B.t m + 1 ≤ hgt (addT B.t n m) (if hgt B.t B.fin + B.dep < hgt B.t m + 1 then anc (addT B.t n m) n (hgt B.t m + 1 - B.dep) else B.fin) + B.dep) ∧
    anc (addT B.t n m) n (hgt (addT B.t n m) (if hgt B.t B.fin + B.dep < hgt B.t m + 1 then anc (addT B.t n m) n (hgt B.t m + 1 - B.dep) else B.fin)) = (if hgt B.t B.fin + B.dep < hgt B.t m + 1 then anc (addT B.t n m) n (hgt B.t m + 1 - B.dep) else B.fin) ∧
    ((if hgt B.t B.fin + B.dep < hgt B.t m + 1 then anc (addT B.t n m) n (hgt B.t m + 1 - B.dep) else B.fin) = B.fin ∨ hgt B.t m + 1 = hgt (addT B.t n m) (if hgt B.t B.fin + B.dep < hgt B.t m + 1 then anc (addT B.t n m) n (hgt B.t m + 1 - B.dep) else B.fin) + B.dep)
  have lv : anc (addT B.t n m) n (hgt B.t B.fin) = B.fin := by rw [o.t.anc_new i j hm]; exact l
  by_cases c : hgt B.t B.fin + B.dep < hgt B.t m + 1
  · simp only [if_pos c]
    have e := ot.anc_h in' (h := hgt B.t m + 1 - B.dep) (by rw [hn]; omega)
    rw [e]
    refine ⟨ot.anc_mem in' _, by omega, ?_, by omega, rfl, .inr (by omega)⟩
    rw [ot.anc_anc in' (by omega)]; exact lv
  · simp only [if_neg c]
    rw [hgt_old o.f]
    refine ⟨by rw [nums_add]; exact List.mem_append.mpr (.inl o.f), Nat.le_refl _, ?_, by omega, lv, .inl trivial⟩
    rw [o.t.anc_old o.f]; exact anc_self (Nat.le_refl _)
theorem BOk.add {B : BkM} (o : BOk B) {n m : Int} (i : n ∉ nums B.t) (j : m ∈ nums B.t) (l : B.live m) : BOk (B.add n m) := by
  obtain ⟨u1, u2, u3, u4, u5, u6⟩ := o.fin_up i j l
  have ot : TOk (B.add n m).t := o.t.add i j
  have et : (B.add n m).t = addT B.t n m := rfl
  have in' : n ∈ nums (addT B.t n m) := by rw [nums_add]; simp
  have hn : hgt (addT B.t n m) n = hgt B.t m + 1 := hgt_new i
  have cases' : ∀ k ∈ nums (B.add n m).t, k ∈ nums B.t ∨ k = n := fun k hk => by
    rw [et, nums_add] at hk
    rcases List.mem_append.mp hk with q | q
    · exact .inl q
    · exact .inr (List.mem_singleton.mp q)
  have tl' : (B.add n m).tips.length ≤ (B.add n m).t.length := by
    show (B.tips.filter (fun k => !decide (k = m)) ++ [n]).length ≤ (B.t ++ [_]).length
    rw [List.length_append, List.length_append]
    have := List.length_filter_le (fun k => !decide (k = m)) B.tips
    have := o.tl
    simp only [List.length_cons, List.length_nil]
    omega
  refine ⟨ot, u1, o.dp, ?_, tl', fun k => ?_, fun k hk => ?_, fun k hk hd => ?_, ?_⟩
  · show (B.tips.filter (fun k => !decide (k = m)) ++ [n]).Nodup
    rw [List.nodup_append]
    refine ⟨o.tn.filter _, by simp, fun a ha b hb e => ?_⟩
    rw [List.mem_singleton.mp hb] at e
    exact i (e ▸ o.tsub a (List.mem_filter.mp ha).1)
  · show k ∈ B.tips.filter (fun k => !decide (k = m)) ++ [n] ↔ _
    rw [et, List.mem_append, List.mem_filter, List.mem_singleton, nums_add, List.mem_append, List.mem_singleton, o.tp]
    constructor
    · rintro (⟨⟨a, b⟩, c⟩ | rfl)
      · refine ⟨.inl a, fun d hd => ?_⟩
        rcases List.mem_append.mp hd with q | q
        · exact b d q
        · rw [List.mem_singleton.mp q]
          have hc : ¬ k = m := by simpa using c
          exact fun e => hc (Option.some.inj e).symm
      · refine ⟨.inr rfl, fun d hd => ?_⟩
        rcases List.mem_append.mp hd with q | q
        · intro e
          by_cases z : d.n = 0
          · have := fnd_mem o.t.nd q
            rw [z, o.t.root] at this
            rw [← Option.some.inj this] at e
            cases e
          · obtain ⟨e', a, b, _⟩ := o.t.par d q z
            rw [b] at e
            exact i (Option.some.inj e ▸ mem_nums a)
        · rw [List.mem_singleton.mp q]
          intro e
          exact i (Option.some.inj e ▸ j)
    · rintro ⟨a, b⟩
      rcases a with a | rfl
      · refine .inl ⟨⟨a, fun d hd => b d (List.mem_append.mpr (.inl hd))⟩, ?_⟩
        have : ¬ k = m := fun e => b ⟨n, some m, hgt B.t m + 1⟩ (List.mem_append.mpr (.inr (List.mem_singleton.mpr rfl))) (by rw [e])
        simpa using this
      · exact .inr rfl
  · rcases cases' k hk with q | rfl
    · rw [et, hgt_old q]
      have := o.f1 k q
      rw [et] at u2
      show _ ≤ _ + B.dep
      omega
    · rw [et, hn]; rw [et] at u4; exact u4
  · rcases cases' k hk with q | rfl
    · have hk' := o.f1 k q
      have h2 := o.f2 k q (by rw [et, hgt_old q] at hd; exact hd)
      rw [et, hgt_old q, o.t.anc_old q]
      show anc B.t k (hgt B.t k - B.dep) = anc (addT B.t n m) (B.add n m).fin (hgt B.t k - B.dep)
      rw [h2]
      have e := ot.anc_anc u1 (show hgt B.t k - B.dep ≤ hgt B.t B.fin by omega)
      rw [u3] at e
      exact (o.t.anc_old o.f).symm.trans e
    · rw [et, hn]
      show anc (addT B.t k m) k (hgt B.t m + 1 - B.dep) = anc (addT B.t k m) (B.add k m).fin (hgt B.t m + 1 - B.dep)
      have e := ot.anc_anc in' (show hgt B.t m + 1 - B.dep ≤ hgt (B.add k m).t (B.add k m).fin by omega)
      rw [u5] at e
      exact e.symm
  · rcases u6 with e | e
    · rcases o.f3 with z | ⟨k, a, b, c⟩
      · exact .inl (e.trans z)
      · refine .inr ⟨k, by rw [et, nums_add]; exact List.mem_append.mpr (.inl a), ?_, ?_⟩
        · rw [e, et, hgt_old a, hgt_old o.f]; exact b
        · show anc (addT B.t n m) k (hgt (addT B.t n m) (B.add n m).fin) = _
          rw [e, hgt_old o.f, o.t.anc_old a]; exact c
    · exact .inr ⟨n, by rw [et]; exact in', by rw [et, hn]; rw [et] at e; exact e, u5⟩

/-! blocks in the heap -/
def optV : Option Int → V
  | none => .non
  | some i => .int i
def parK (t : Tre) : List (Key × V) := t.map fun d => ((Sum.inl d.n : Key), optV d.p)
def htK (t : Tre) : List (Key × V) := t.map fun d => ((Sum.inl d.n : Key), V.int (d.h : Int))
def tipK (ts : List Int) : List (Key × V) := ts.map fun n => ((Sum.inl n : Key), V.bl true)
theorem val_map (f : Nd → V) (n : Int) : ∀ t : Tre, valV (t.map fun d => ((Sum.inl d.n : Key), f d)) (Sum.inl n) = (fnd t n).map f
  | [] => rfl
  | d :: t => by
    unfold fnd
    rw [List.map_cons, valV_cons, List.find?_cons]
    by_cases e : d.n = n
    · rw [if_pos (by rw [e]), decide_eq_true e]; rfl
    · rw [if_neg (fun q => e (Sum.inl.inj q)), decide_eq_false e]; exact val_map f n t
theorem par_val {t : Tre} {n : Int} (h : n ∈ nums t) : valV (parK t) (Sum.inl n) = some (optV ((fnd t n).bind Nd.p)) := by
  unfold parK
  obtain ⟨d, _, _, e⟩ := fnd_of h
  rw [val_map, e]; rfl
theorem ht_val {t : Tre} {n : Int} (h : n ∈ nums t) : valV (htK t) (Sum.inl n) = some (.int (hgt t n : Int)) := by
  unfold htK hgt
  obtain ⟨d, _, _, e⟩ := fnd_of h
  rw [val_map, e]; rfl
theorem ht_in (t : Tre) (n : Int) : (valV (htK t) (Sum.inl n)).isSome = decide (n ∈ nums t) := by
  by_cases h : n ∈ nums t
  · rw [ht_val h, decide_eq_true h]; rfl
  · unfold htK; rw [val_map, fnd_no h, decide_eq_false h]; rfl
theorem par_put {t : Tre} {n m : Int} (h : n ∉ nums t) : putK (parK t) (Sum.inl n) (.int m) = parK (addT t n m) := by
  rw [putK_new _ (by unfold parK; rw [val_map, fnd_no h]; rfl)]
  unfold parK addT; rw [List.map_append]; rfl
theorem ht_put {t : Tre} {n m : Int} (h : n ∉ nums t) : putK (htK t) (Sum.inl n) (.int ((hgt t m : Int) + 1)) = htK (addT t n m) := by
  rw [putK_new _ (by unfold htK; rw [val_map, fnd_no h]; rfl)]
  unfold htK addT; rw [List.map_append]; rfl
theorem tip_val {ts : List Int} {n : Int} : valV (tipK ts) (Sum.inl n) = if n ∈ ts then some (.bl true) else none := by
  induction ts with
  | nil => rfl
  | cons a ts ih =>
    unfold tipK at ih ⊢
    rw [List.map_cons, valV_cons, ih]
    by_cases e : a = n
    · subst e; rw [if_pos rfl, if_pos List.mem_cons_self]
    · rw [if_neg (fun q => e (Sum.inl.inj q))]
      by_cases m : n ∈ ts
      · rw [if_pos m, if_pos (List.mem_cons_of_mem _ m)]
      · rw [if_neg m, if_neg (by rw [List.mem_cons, not_or]; exact ⟨fun q => e q.symm, m⟩)]
theorem tip_drop (ts : List Int) (m : Int) : dropK (tipK ts) (Sum.inl m) = tipK (ts.filter fun k => !decide (k = m)) := by
  unfold dropK tipK
  rw [List.filter_map]
  congr 2
  funext k
  show decide ((Sum.inl k : Key) ≠ Sum.inl m) = !decide (k = m)
  by_cases e : k = m
  · subst e; simp
  · simp [e]
theorem tip_none {ts : List Int} {m : Int} (h : valV (tipK ts) (Sum.inl m) = none) : ts.filter (fun k => !decide (k = m)) = ts := by
  rw [tip_val] at h
  have hm : m ∉ ts := fun q => by rw [if_pos q] at h; cases h
  rw [List.filter_eq_self]
  intro a ha
  have : ¬ a = m := fun e => hm (e ▸ ha)
  simp [this]
theorem tip_put {ts : List Int} {n : Int} (h : n ∉ ts) : putK (tipK ts) (Sum.inl n) (.bl true) = tipK (ts ++ [n]) := by
  rw [putK_new _ (by rw [tip_val, if_neg h])]
  unfold tipK; rw [List.map_append]; rfl
instance (B : BkM) (n : Int) : Decidable (B.live n) := inferInstanceAs (Decidable (_ = _))
structure BkA where
  x : Addr
  p : Addr
  h : Addr
  t : Addr
def bkNames : List Str := ["_depth", "_parents", "_heights", "_tips", "_final"]
/-- blocks but for their tips -/
structure BkC (C : Addr) (H : Hp) (A : BkA) (B : BkM) : Prop where
  ex : ∃ dx fs, H A.x = some (.ins C dx fs) ∧ fs.lookup ("_depth" : Str) = some (.int (B.dep : Int)) ∧ fs.lookup ("_parents" : Str) = some (.ref A.p) ∧ fs.lookup ("_heights" : Str) = some (.ref A.h) ∧ fs.lookup ("_tips" : Str) = some (.ref A.t) ∧ fs.lookup ("_final" : Str) = some (.int B.fin) ∧ (∀ m : Str, m ∉ bkNames → fs.lookup m = none) ∧ fs.length ≤ 5
  p : H A.p = some (.dK (parK B.t))
  h : H A.h = some (.dK (htK B.t))
structure BkAt (C : Addr) (H : Hp) (A : BkA) (B : BkM) : Prop where
  c : BkC C H A B
  t : H A.t = some (.dK (tipK B.tips))
  n1 : A.p ≠ A.h
  n2 : A.p ≠ A.t
  n3 : A.h ≠ A.t
theorem BkC.keep {C : Addr} {H H' : Hp} {A : BkA} {B : BkM} (h : BkC C H A B) (e1 : ∀ o, H A.x = some o → H' A.x = some o) (e2 : ∀ o, H A.p = some o → H' A.p = some o) (e3 : ∀ o, H A.h = some o → H' A.h = some o) : BkC C H' A B := by
  obtain ⟨dx, fs, q, r⟩ := h.ex
  exact ⟨⟨dx, fs, e1 _ q, r⟩, e2 _ h.p, e3 _ h.h⟩
theorem BkC.same {C : Addr} {H H' : Hp} {A : BkA} {B : BkM} (h : BkC C H A B) (e : Same H H') : BkC C H' A B := h.keep (fun o q => e _ _ q) (fun o q => e _ _ q) fun o q => e _ _ q
theorem BkAt.same {C : Addr} {H H' : Hp} {A : BkA} {B : BkM} (h : BkAt C H A B) (e : Same H H') : BkAt C H' A B := ⟨h.c.same e, e _ _ h.t, h.n1, h.n2, h.n3⟩
/-- all but the blocks' own objects stays -/
def Kb (A : BkA) (H H' : Hp) : Prop := ∀ b o, H b = some o → b ≠ A.x → b ≠ A.p → b ≠ A.h → b ≠ A.t → H' b = some o
def sp_bkI (C : Addr) : Sp := fun vs H Q _ => ∃ (x dx : Addr) (d : Nat), vs = [.ref x, .int (d : Int), .int 0] ∧ H x = some (.ins C dx []) ∧ ∀ (H' : Hp) (p h t : Addr), H p = none → H h = none → H t = none → BkAt C H' ⟨x, p, h, t⟩ ⟨[⟨0, none, 0⟩], [0], 0, d⟩ → Kp x H H' → Q .non H'
def sp_bkHas (C : Addr) : Sp := fun vs H Q _ => ∃ (A : BkA) (B : BkM) (n : Int), vs = [.ref A.x, .int n] ∧ BkC C H A B ∧ Q (.bl (decide (n ∈ nums B.t))) H
def sp_bkNums (C : Addr) : Sp := fun vs H Q _ => ∃ (A : BkA) (B : BkM), vs = [.ref A.x] ∧ BkC C H A B ∧ B.t.length < 64 ∧ ∀ (q : Addr) (ys : List Int), H q = none → ys.Perm (nums B.t) → ys.Pairwise (· ≤ ·) → Q (.ref q) (upd H q (.lst (ys.map V.int)))
def sp_bkPar (C : Addr) : Sp := fun vs H Q _ => ∃ (A : BkA) (B : BkM) (n : Int), vs = [.ref A.x, .int n] ∧ BkC C H A B ∧ n ∈ nums B.t ∧ Q (optV ((fnd B.t n).bind Nd.p)) H
def sp_bkFin (C : Addr) : Sp := fun vs H Q _ => ∃ (A : BkA) (B : BkM), vs = [.ref A.x] ∧ BkC C H A B ∧ Q (.int B.fin) H
def sp_bkBelow (C : Addr) : Sp := fun vs H Q _ => ∃ (A : BkA) (B : BkM) (n : Int) (h : Nat), vs = [.ref A.x, .int n, .int (h : Int)] ∧ BkC C H A B ∧ TOk B.t ∧ n ∈ nums B.t ∧ Q (.int (anc B.t n h)) H
def sp_bkLive (C : Addr) : Sp := fun vs H Q _ => ∃ (A : BkA) (B : BkM) (n : Int), vs = [.ref A.x, .int n] ∧ BkC C H A B ∧ TOk B.t ∧ B.fin ∈ nums B.t ∧ n ∈ nums B.t ∧ Q (.bl (decide (B.live n))) H
def sp_bkTips (C : Addr) : Sp := fun vs H Q _ => ∃ (A : BkA) (B : BkM), vs = [.ref A.x] ∧ BkAt C H A B ∧ BOk B ∧ B.t.length < 64 ∧ ∀ (q : Addr) (ys : List Int) (H' : Hp), Same H H' → H q = none → H' q = some (.lst (ys.map V.int)) → ys.Perm (B.tips.filter fun n => decide (B.live n)) → ys.Pairwise (· ≤ ·) → Q (.ref q) H'
def sp_bkPlace (C : Addr) : Sp := fun vs H Q _ => ∃ (A : BkA) (B : BkM) (n m : Int), vs = [.ref A.x, .int n, .int m] ∧ BkAt C H A B ∧ BOk B ∧ n ∉ nums B.t ∧ m ∈ nums B.t ∧ B.t.length < 1000 ∧ ∀ H', BkAt C H' A (B.add n m) → Kb A H H' → Q .non H'
theorem no_bk : ("_below" : Str) ∉ bkNames ∧ ("is_live" : Str) ∉ bkNames ∧ ("has" : Str) ∉ bkNames ∧ ("numbers" : Str) ∉ bkNames ∧ ("parent" : Str) ∉ bkNames ∧ ("final" : Str) ∉ bkNames ∧ ("live_tips" : Str) ∉ bkNames ∧ ("place" : Str) ∉ bkNames := by decide +kernel
section
variable {H : Hp} {σ : L2.St} {Q : VK} {td ty tx : TE} {a : Addr} {z v : V}
def dP2K (Q : VK) (a : Addr) (y : V) : VK := fun z H3 => ∃ (kvs : List (Key × V)) (k : Key), H3 a = some (.dK kvs) ∧ y = kV k ∧ (∀ v, valV kvs k = some v → Q v (upd H3 a (.dK (dropK kvs k)))) ∧ (valV kvs k = none → Q z H3)
def dP2a (ty tx : TE) (σ : L2.St) (Q : VK) : VK := fun x H1 => ∃ a, x = .ref a ∧ IsD H1 a ∧ ty σ H1 fun y H2 => tx σ H2 (dP2K Q a y)
theorem q_tDPop2 (h : td σ H (dP2a ty tx σ Q)) : tDPop2 td ty tx σ H Q := h
end
section
variable {P : Program} {w : World} {K : PySem.W.Frag} {mg : Str → Option Value} {base : Heap}
theorem ok_Blocks_init (T : Txt K mg) : FnOk P w K mg base CX0 1 T.f_Blocks_init T.d_Blocks_init ["self", "depth", "first"] (sp_bkI T.C_Blocks) := by
  refine T.F_Blocks_init.ok sc_Blocks_init (fun vs H Q E h => ?_) (fun cdv A outer s H vs Q E hr h => ?_)
  · obtain ⟨x, dx, d, rfl, _⟩ := h; rfl
  · obtain ⟨x, dx, d, rfl, hx, k⟩ := h
    refine ⟨_, (pss_cons (ps_fld (pv 0) (pv 1) rfl)
      (pss_cons (ps_fld (pv 0) (pe_disp (pps_cons (pv 2) pe_non pps_nil) (by rfl) (by rfl) (fun z => by cases z) (by decide)) rfl)
      (pss_cons (ps_fld (pv 0) (pe_disp (pps_cons (pv 2) pe_int pps_nil) (by rfl) (by rfl) (fun z => by cases z) (by decide)) rfl)
      (pss_cons (ps_fld (pv 0) (pe_disp (pps_cons (pv 2) pe_bl pps_nil) (by rfl) (by rfl) (fun z => by cases z) (by decide)) rfl)
      (pss_one (ps_fld (pv 0) (pv 2) rfl)))))), ?_⟩
    (dsimp only [cxOf, Cx.nox, Cx.wish, L2.start, List.map, List.length, List.replicate, List.cons_append, List.nil_append, List.append_eq, Nat.reduceSub, Nat.reduceAdd])
    walk_at "my_rd"
    refine q_fputK hx T.cl_Blocks T.n_Blocks_depth (by show 0 < 1000; decide) ?_
    walk_at "my_rd"
    have len1 : ((putF "_depth" (.int d) []) : List (Str × V)).length ≤ 1 := q_fldlen (Nat.le_refl _)
    have hx1 : upd H x (.ins T.C_Blocks dx (putF "_depth" (.int d) [])) x = some (.ins T.C_Blocks dx (putF "_depth" (.int d) [])) := upd_same
    have kp1 : Kp x H (upd H x (.ins T.C_Blocks dx (putF "_depth" (.int d) []))) := Kp.upd Kp.refl
    generalize upd H x (.ins T.C_Blocks dx (putF "_depth" (.int d) [])) = H1 at hx1 kp1 ⊢
    refine q_disp fun p np => ?_
    walk_at "my_rd"
    refine q_dispK (kvs := [(Sum.inl 0, .non)]) upd_same rfl (by decide) (by simp) ?_
    rw [upd_upd]
    walk_at "my_rd"
    refine q_fputK (upd_new np hx1) T.cl_Blocks T.n_Blocks_parents (Nat.lt_of_le_of_lt len1 (by decide)) ?_
    walk_at "my_rd"
    have len2 : ((putF "_parents" (.ref p) (putF "_depth" (.int d) [])) : List (Str × V)).length ≤ 2 := q_fldlen len1
    have xp : p ≠ x := (ne_of_none hx1 np).symm
    have zp : H p = none := Kp.fresh kp1 hx np xp
    generalize hF2 : (putF "_parents" (.ref p) (putF "_depth" (.int d) [])) = F2 at len2 ⊢
    have hx2 : upd (upd H1 p (.dK [(Sum.inl 0, .non)])) x (.ins T.C_Blocks dx F2) x = some (.ins T.C_Blocks dx F2) := upd_same
    have hp2 : upd (upd H1 p (.dK [(Sum.inl 0, .non)])) x (.ins T.C_Blocks dx F2) p = some (.dK [(Sum.inl 0, .non)]) := upd_other xp upd_same
    have kk2 : Kp x H1 (upd (upd H1 p (.dK [(Sum.inl 0, .non)])) x (.ins T.C_Blocks dx F2)) := Kp.upd (Kp.new Kp.refl np)
    generalize upd (upd H1 p (.dK [(Sum.inl 0, .non)])) x (.ins T.C_Blocks dx F2) = H2 at hx2 hp2 kk2 ⊢
    have kp2 := Kp.trans kp1 kk2
    refine q_disp fun h nh => ?_
    walk_at "my_rd"
    refine q_dispK (kvs := [(Sum.inl 0, .int 0)]) upd_same rfl (by decide) (by simp) ?_
    rw [upd_upd]
    walk_at "my_rd"
    refine q_fputK (upd_new nh hx2) T.cl_Blocks T.n_Blocks_heights (Nat.lt_of_le_of_lt len2 (by decide)) ?_
    walk_at "my_rd"
    have len3 : ((putF "_heights" (.ref h) F2) : List (Str × V)).length ≤ 3 := q_fldlen len2
    have xh : h ≠ x := (ne_of_none hx2 nh).symm
    have zh : H h = none := Kp.fresh kp2 hx nh xh
    have dph : p ≠ h := ne_of_none hp2 nh
    generalize hF3 : (putF "_heights" (.ref h) F2) = F3 at len3 ⊢
    have hx3 : upd (upd H2 h (.dK [(Sum.inl 0, .int 0)])) x (.ins T.C_Blocks dx F3) x = some (.ins T.C_Blocks dx F3) := upd_same
    have hh3 : upd (upd H2 h (.dK [(Sum.inl 0, .int 0)])) x (.ins T.C_Blocks dx F3) h = some (.dK [(Sum.inl 0, .int 0)]) := upd_other xh upd_same
    have kk3 : Kp x H2 (upd (upd H2 h (.dK [(Sum.inl 0, .int 0)])) x (.ins T.C_Blocks dx F3)) := Kp.upd (Kp.new Kp.refl nh)
    generalize upd (upd H2 h (.dK [(Sum.inl 0, .int 0)])) x (.ins T.C_Blocks dx F3) = H3 at hx3 hh3 kk3 ⊢
    have kp3 := Kp.trans kp2 kk3
    have hp3 := kk3 _ _ hp2 xp
    refine q_disp fun t nt => ?_
    walk_at "my_rd"
    refine q_dispK (kvs := [(Sum.inl 0, .bl true)]) upd_same rfl (by decide) (by simp) ?_
    rw [upd_upd]
    walk_at "my_rd"
    refine q_fputK (upd_new nt hx3) T.cl_Blocks T.n_Blocks_tips (Nat.lt_of_le_of_lt len3 (by decide)) ?_
    walk_at "my_rd"
    have len4 : ((putF "_tips" (.ref t) F3) : List (Str × V)).length ≤ 4 := q_fldlen len3
    have xt : t ≠ x := (ne_of_none hx3 nt).symm
    have zt : H t = none := Kp.fresh kp3 hx nt xt
    have dpt : p ≠ t := ne_of_none hp3 nt
    have dht : h ≠ t := ne_of_none hh3 nt
    generalize hF4 : (putF "_tips" (.ref t) F3) = F4 at len4 ⊢
    have hx4 : upd (upd H3 t (.dK [(Sum.inl 0, .bl true)])) x (.ins T.C_Blocks dx F4) x = some (.ins T.C_Blocks dx F4) := upd_same
    have ht4 : upd (upd H3 t (.dK [(Sum.inl 0, .bl true)])) x (.ins T.C_Blocks dx F4) t = some (.dK [(Sum.inl 0, .bl true)]) := upd_other xt upd_same
    have kk4 : Kp x H3 (upd (upd H3 t (.dK [(Sum.inl 0, .bl true)])) x (.ins T.C_Blocks dx F4)) := Kp.upd (Kp.new Kp.refl nt)
    generalize upd (upd H3 t (.dK [(Sum.inl 0, .bl true)])) x (.ins T.C_Blocks dx F4) = H4 at hx4 ht4 kk4 ⊢
    have kp4 := Kp.trans kp3 kk4
    have hp4 := kk4 _ _ hp3 xp
    have hh4 := kk4 _ _ hh3 xh
    refine q_fputK hx4 T.cl_Blocks T.n_Blocks_final (Nat.lt_of_le_of_lt len4 (by decide)) ?_
    walk_at "my_rd"
    have kk5 : Kp x H4 (upd H4 x (.ins T.C_Blocks dx (putF "_final" (.int 0) F4))) := Kp.upd Kp.refl
    refine k _ p h t zp zh zt ⟨⟨⟨dx, _, upd_same, ?_, ?_, ?_, ?_, ?_, ?_, q_fldlen len4⟩, kk5 _ _ hp4 xp, kk5 _ _ hh4 xh⟩, kk5 _ _ ht4 xt, dph, dpt, dht⟩ (Kp.trans kp4 kk5)
    all_goals subst hF4; subst hF3; subst hF2
    · (repeat first | rfl | rw [lookup_putF, if_pos rfl] | rw [lookup_putF, if_neg (by decide +kernel)])
    · (repeat first | rfl | rw [lookup_putF, if_pos rfl] | rw [lookup_putF, if_neg (by decide +kernel)])
    · (repeat first | rfl | rw [lookup_putF, if_pos rfl] | rw [lookup_putF, if_neg (by decide +kernel)])
    · (repeat first | rfl | rw [lookup_putF, if_pos rfl] | rw [lookup_putF, if_neg (by decide +kernel)])
    · (repeat first | rfl | rw [lookup_putF, if_pos rfl] | rw [lookup_putF, if_neg (by decide +kernel)])
    · intro m hm
      have hne : ∀ z ∈ bkNames, ¬ m = z := fun z hz e => hm (e ▸ hz)
      rw [lookup_putF, if_neg (hne _ (by decide +kernel)), lookup_putF, if_neg (hne _ (by decide +kernel)), lookup_putF, if_neg (hne _ (by decide +kernel)), lookup_putF, if_neg (hne _ (by decide +kernel)), lookup_putF, if_neg (hne _ (by decide +kernel))]
      rfl
theorem ok_Blocks_has (T : Txt K mg) : FnOk P w K mg base CX0 1 T.f_Blocks_has T.d_Blocks_has ["self", "number"] (sp_bkHas T.C_Blocks) := by
  refine T.F_Blocks_has.ok sc_Blocks_has (fun vs H Q E h => ?_) (fun cdv A outer s H vs Q E hr h => ?_)
  · obtain ⟨A, B, n, rfl, _⟩ := h; rfl
  · obtain ⟨M, B, n, rfl, hB, k⟩ := h
    have hu := hu_of hr
    obtain ⟨dx, fs, h0, h1, h2, h3, h4, h5, h6, h7⟩ := hB.ex
    refine ⟨_, (pss_one (ps_ret (pe_cmp (pc_din hu (pv 1) (pe_fld (pv 0) rfl))))), ?_⟩
    (dsimp only [cxOf, Cx.nox, Cx.wish, L2.start, List.map, List.length, List.replicate, List.cons_append, List.nil_append, List.append_eq, Nat.reduceSub, Nat.reduceAdd])
    walk_at "my_rd"
    refine q_fldK h0 T.cl_Blocks T.n_Blocks_heights h3 ?_
    refine q_dInI hB.h ?_
    rw [ht_in]
    walk_at "my_rd"
    exact k
theorem ok_Blocks_numbers (T : Txt K mg) : FnOk P w K mg base CX0 1 T.f_Blocks_numbers T.d_Blocks_numbers ["self"] (sp_bkNums T.C_Blocks) := by
  refine T.F_Blocks_numbers.ok sc_Blocks_numbers (fun vs H Q E h => ?_) (fun cdv A outer s H vs Q E hr h => ?_)
  · obtain ⟨A, B, rfl, _⟩ := h; rfl
  · obtain ⟨M, B, rfl, hB, hl, k⟩ := h
    obtain ⟨dx, fs, h0, h1, h2, h3, h4, h5, h6, h7⟩ := hB.ex
    refine ⟨_, (pss_one (ps_ret (pe_callB (call_sortedDI rfl) (by rfl) T.z_sorted boot_sorted (pa_cons (pe_fld (pv 0) rfl) pa_nil)))), ?_⟩
    (dsimp only [cxOf, Cx.nox, Cx.wish, L2.start, List.map, List.length, List.replicate, List.cons_append, List.nil_append, List.append_eq, Nat.reduceSub, Nat.reduceAdd])
    walk_at "my_rd"
    refine q_fldK h0 T.cl_Blocks T.n_Blocks_heights h3 ?_
    walk_at "my_rd"
    refine ⟨M.h, htK B.t, nums B.t, rfl, .inl hB.h, ?_, by unfold nums; rw [List.length_map]; exact hl, fun ys q hp hs nq => ?_⟩
    · unfold htK nums; rw [List.map_map, List.map_map]; rfl
    · walk_at "my_rd"
      exact k q ys nq hp hs
theorem ok_Blocks_parent (T : Txt K mg) : FnOk P w K mg base CX0 1 T.f_Blocks_parent T.d_Blocks_parent ["self", "number"] (sp_bkPar T.C_Blocks) := by
  refine T.F_Blocks_parent.ok sc_Blocks_parent (fun vs H Q E h => ?_) (fun cdv A outer s H vs Q E hr h => ?_)
  · obtain ⟨A, B, n, rfl, _⟩ := h; rfl
  · obtain ⟨M, B, n, rfl, hB, hn, k⟩ := h
    have hu := hu_of hr
    obtain ⟨dx, fs, h0, h1, h2, h3, h4, h5, h6, h7⟩ := hB.ex
    refine ⟨_, (pss_one (ps_ret (pe_dget hu (pe_fld (pv 0) rfl) (pv 1) (fun _ _ => rfl)))), ?_⟩
    (dsimp only [cxOf, Cx.nox, Cx.wish, L2.start, List.map, List.length, List.replicate, List.cons_append, List.nil_append, List.append_eq, Nat.reduceSub, Nat.reduceAdd])
    walk_at "my_rd"
    refine q_fldK h0 T.cl_Blocks T.n_Blocks_parents h2 ?_
    walk_at "my_rd"
    refine q_dGetI hB.p (par_val hn) ?_
    walk_at "my_rd"
    exact k
theorem ok_Blocks_final (T : Txt K mg) : FnOk P w K mg base CX0 1 T.f_Blocks_final T.d_Blocks_final ["self"] (sp_bkFin T.C_Blocks) := by
  refine T.F_Blocks_final.ok sc_Blocks_final (fun vs H Q E h => ?_) (fun cdv A outer s H vs Q E hr h => ?_)
  · obtain ⟨A, B, rfl, _⟩ := h; rfl
  · obtain ⟨M, B, rfl, hB, k⟩ := h
    obtain ⟨dx, fs, h0, h1, h2, h3, h4, h5, h6, h7⟩ := hB.ex
    refine ⟨_, (pss_one (ps_ret (pe_fld (pv 0) rfl))), ?_⟩
    (dsimp only [cxOf, Cx.nox, Cx.wish, L2.start, List.map, List.length, List.replicate, List.cons_append, List.nil_append, List.append_eq, Nat.reduceSub, Nat.reduceAdd])
    walk_at "my_rd"
    refine q_fldK h0 T.cl_Blocks T.n_Blocks_final h5 ?_
    walk_at "my_rd"
    exact k
theorem ok_Blocks_below (T : Txt K mg) : FnOk P w K mg base CX0 1 T.f_Blocks_below T.d_Blocks_below ["self", "number", "height"] (sp_bkBelow T.C_Blocks) := by
  refine T.F_Blocks_below.ok sc_Blocks_below (fun vs H Q E h => ?_) (fun cdv A outer s H vs Q E hr h => ?_)
  · obtain ⟨A, B, n, h, rfl, _⟩ := h; rfl
  · obtain ⟨M, B, n, h, rfl, hB, hT, hn, k⟩ := h
    have hu := hu_of hr
    obtain ⟨dx, fs, h0, h1, h2, h3, h4, h5, h6, h7⟩ := hB.ex
    refine ⟨_, (pss_cons (ps_while PassesOwn.never (pt_cmpR op_gt (pe_dget hu (pe_fld (pv 0) rfl) (pv 1) (fun _ _ => rfl)) (pv 2) (nomark _)) (pss_one (ps_set (i := 1) sc_Blocks_below.nd rfl (Or.inl rfl) (pe_dget hu (pe_fld (pv 0) rfl) (pv 1) (fun _ _ => rfl)))))
      (pss_one (ps_ret (pv 1)))), ?_⟩
    (dsimp only [cxOf, Cx.nox, Cx.wish, L2.start, List.map, List.length, List.replicate, List.cons_append, List.nil_append, List.append_eq, Nat.reduceSub, Nat.reduceAdd])
    walk_at "my_rd"
    refine q_while (fun m σ H' => H' = H ∧ ∃ c, σ = [some (.ref M.x), some (.int c), some (.int h)] ∧ c ∈ nums B.t ∧ anc B.t c h = anc B.t n h ∧ hgt B.t c = m) (m0 := hgt B.t n) ⟨rfl, n, rfl, hn, rfl, rfl⟩ ?_
    rintro m σ H' ⟨rfl, c, rfl, hc, ha, hm⟩
    walk_at "my_rd"
    refine q_fldK h0 T.cl_Blocks T.n_Blocks_heights h3 ?_
    walk_at "my_rd"
    refine q_dGetI hB.h (ht_val hc) ?_
    walk_at "my_rd"
    by_cases hlt : (h : Int) < (hgt B.t c : Int)
    · rw [decide_eq_true hlt]
      refine q_whT ?_
      walk_at "my_rd"
      refine q_fldK h0 T.cl_Blocks T.n_Blocks_parents h2 ?_
      walk_at "my_rd"
      have hc0 : c ≠ 0 := fun e => by rw [e, hT.hgt0] at hlt; omega
      obtain ⟨u1, u2, u3⟩ := hT.up_ne hc hc0
      refine q_dGetI hB.p (par_val hc) ?_
      rw [u3]
      walk_at "my_rd"
      exact ⟨hgt B.t (up B.t c), by omega, rfl, up B.t c, rfl, u1, by rw [← ha, hT.anc_up hc (by omega)], rfl⟩
    · rw [decide_eq_false hlt]
      refine q_whF ?_
      walk_at "my_rd"
      rw [anc_self (show hgt B.t c ≤ h by omega)] at ha
      rw [ha]
      exact k
theorem ok_Blocks_is_live (T : Txt K mg) : FnOk P w K mg base CX0 2 T.f_Blocks_is_live T.d_Blocks_is_live ["self", "number"] (sp_bkLive T.C_Blocks) := by
  refine T.F_Blocks_is_live.ok sc_Blocks_is_live (fun vs H Q E h => ?_) (fun cdv A outer s H vs Q E hr h => ?_)
  · obtain ⟨A, B, n, rfl, _⟩ := h; rfl
  · obtain ⟨M, B, n, rfl, hB, hT, hf, hn, k⟩ := h
    have hu := hu_of hr
    obtain ⟨dx, fs, h0, h1, h2, h3, h4, h5, h6, h7⟩ := hB.ex
    refine ⟨_, (pss_one (ps_ret (pe_cmpR op_eq (pe_meth (pv 0) T.cl_Blocks T.m_Blocks_below (ok_Blocks_below T) (hr.mono (by decide)) T.b_Blocks_below .nil pass0 (pa_cons (pv 1) (pa_cons (pe_dget hu (pe_fld (pv 0) rfl) (pe_fld (pv 0) rfl) (fun _ _ => rfl)) pa_nil))) (pe_fld (pv 0) rfl) (nomark _)))), ?_⟩
    (dsimp only [cxOf, Cx.nox, Cx.wish, L2.start, List.map, List.length, List.replicate, List.cons_append, List.nil_append, List.append_eq, Nat.reduceSub, Nat.reduceAdd])
    walk_at "my_rd"
    refine q_methK h0 (h6 _ no_bk.1) fun R hR => ?_
    walk_at "my_rd"
    refine q_fldK h0 T.cl_Blocks T.n_Blocks_heights h3 ?_
    walk_at "my_rd"
    refine q_fldK h0 T.cl_Blocks T.n_Blocks_final h5 ?_
    refine q_dGetI hB.h (ht_val hf) ?_
    walk_at "my_rd"
    refine hR _ _ ⟨M, B, n, hgt B.t B.fin, rfl, hB, hT, hn, ?_⟩
    walk_at "my_rd"
    refine q_fldK h0 T.cl_Blocks T.n_Blocks_final h5 ?_
    walk_at "my_rd"
    exact k
end

local macro_rules | `(tactic| walk_at "my_rd") => `(tactic| (repeat first
  | with_reducible refine q_tCons ?_
  | ((with_reducible apply q_var); (focus (exact rfl)))
  | with_reducible refine q_c ?_
  | ((with_reducible apply q_nxE); (focus (with_reducible exact rfl)))
  | with_reducible refine q_bK ?_
  | with_reducible refine q_call ?_
  | with_reducible refine q_callK ?_
  | with_reducible refine q_tNil ?_
  | with_reducible refine q_cb ?_
  | with_reducible refine q_seq ?_
  | with_reducible refine q_asg ?_
  | with_reducible refine q_gName ?_
  | with_reducible refine q_op ?_
  | with_reducible refine q_test ?_
  | with_reducible refine q_tB ?_
  | with_reducible refine q_ifS ?_
  | with_reducible refine q_ret ?_
  | ((with_reducible apply q_rtE); (focus (with_reducible exact rfl)))
  | with_reducible refine q_next ?_
  | with_reducible refine q_ifF ?_
  | with_reducible refine q_ifT ?_
  | with_reducible refine q_drop ?_
  | with_reducible refine q_and ?_
  | with_reducible refine q_or ?_
  | with_reducible refine q_andT ?_
  | with_reducible refine q_andF ?_
  | with_reducible refine q_orF ?_
  | with_reducible refine q_orT ?_
  | with_reducible refine q_andV ?_
  | with_reducible refine q_andVT ?_
  | with_reducible refine q_andVF ?_
  | with_reducible refine q_orV ?_
  | with_reducible refine q_gCons ?_
  | with_reducible refine q_gNil ?_
  | with_reducible refine q_tup ?_
  | with_reducible refine q_lst ?_
  | with_reducible refine q_not ?_
  | with_reducible refine q_notKT ?_
  | with_reducible refine q_notKF ?_
  | with_reducible refine q_I0 ?_
  | with_reducible refine q_eqI ?_
  | with_reducible refine q_neI ?_
  | ((with_reducible refine q_I ?_ ?_); first | decide | omega | exact ⟨by omega, by omega⟩ | exact ⟨by decide, by decide⟩ | exact .inl ⟨by omega, by omega⟩ | exact .inr ⟨by omega, by omega⟩ | exact .inr ⟨by decide, by decide⟩)
  | with_reducible refine q_eqS ?_
  | with_reducible refine q_neS ?_
  | with_reducible refine q_brk ?_
  | with_reducible refine q_ct ?_
  | ((with_reducible apply q_bkE); (focus (with_reducible exact rfl)))
  | ((with_reducible apply q_cnE); (focus (with_reducible exact rfl)))
  | with_reducible refine q_retN ?_
  | with_reducible refine q_gSub ?_
  | with_reducible refine q_for ?_
  | with_reducible refine q_iList ?_
  | with_reducible refine q_iTup ?_
  | with_reducible refine q_iRng1 ?_
  | with_reducible refine q_notK ?_
  | with_reducible refine q_orVT ?_
  | with_reducible refine q_orVF ?_
  | with_reducible refine q_notV ?_
  | with_reducible refine q_notVK ?_
  | with_reducible refine q_ifE ?_
  | with_reducible refine q_ifET ?_
  | with_reducible refine q_ifEF ?_
  | with_reducible refine q_yes ?_
  | with_reducible refine q_un ?_
  | with_reducible refine q_rU ?_
  | with_reducible refine q_abs ?_
  | with_reducible refine q_int1 ?_
  | with_reducible refine q_bm ?_
  | with_reducible refine q_bm0 ?_
  | with_reducible refine q_lc ?_
  | with_reducible refine q_keepT ?_
  | with_reducible refine q_keepF ?_
  | ((with_reducible apply q_aug); (focus (exact rfl)))
  | with_reducible refine q_ipI ?_
  | with_reducible refine q_chain ?_
  | with_reducible refine q_pairC ?_
  | with_reducible refine q_pairsK ?_
  | with_reducible refine q_pairN ?_
  | with_reducible refine q_fld ?_
  | with_reducible refine q_sFld ?_
  | with_reducible refine q_meth ?_
  | with_reducible refine q_makeK ?_
  | with_reducible refine q_isBl ?_
  | with_reducible refine q_notBl ?_
  | with_reducible refine q_sl ?_
  | with_reducible refine q_noPart ?_
  | with_reducible refine q_part ?_
  | with_reducible refine q_partK ?_
  | ((with_reducible apply q_mulStr); (focus (decide +kernel)))
  | with_reducible refine q_chT ?_
  | with_reducible refine q_chF ?_
  | with_reducible refine q_ord ?_
  | with_reducible refine q_iStr0 ?_
  | with_reducible refine q_iStr ?_
  | with_reducible refine q_tDIn ?_
  | with_reducible refine q_tDNotIn ?_
  | with_reducible refine q_tDGet ?_
  | with_reducible refine q_tDGet2 ?_
  | with_reducible refine q_tDGet1 ?_
  | with_reducible refine q_tDSetd ?_
  | ((with_reducible apply q_dG2a); (focus ((repeat first | (with_reducible exact upd_same) | (with_reducible assumption) | (with_reducible apply upd_new (by assumption)) | (with_reducible apply upd_other (by first | assumption | exact Ne.symm (by assumption))) | (with_reducible refine' Kp.get (by assumption) ?_ (by first | assumption | exact Ne.symm (by assumption))) | (with_reducible apply Same.get (by assumption))); done)))
  | ((with_reducible apply q_dSda); (focus ((repeat first | (with_reducible exact upd_same) | (with_reducible assumption) | (with_reducible apply upd_new (by assumption)) | (with_reducible apply upd_other (by first | assumption | exact Ne.symm (by assumption))) | (with_reducible refine' Kp.get (by assumption) ?_ (by first | assumption | exact Ne.symm (by assumption))) | (with_reducible apply Same.get (by assumption))); done)))
  | with_reducible refine q_sDPut ?_
  | ((with_reducible apply q_dInS); (focus ((repeat first | (with_reducible exact upd_same) | (with_reducible assumption) | (with_reducible apply upd_new (by assumption)) | (with_reducible apply upd_other (by first | assumption | exact Ne.symm (by assumption))) | (with_reducible refine' Kp.get (by assumption) ?_ (by first | assumption | exact Ne.symm (by assumption))) | (with_reducible apply Same.get (by assumption))); done)))
  | ((with_reducible apply q_dNInS); (focus ((repeat first | (with_reducible exact upd_same) | (with_reducible assumption) | (with_reducible apply upd_new (by assumption)) | (with_reducible apply upd_other (by first | assumption | exact Ne.symm (by assumption))) | (with_reducible refine' Kp.get (by assumption) ?_ (by first | assumption | exact Ne.symm (by assumption))) | (with_reducible apply Same.get (by assumption))); done)))
  | ((with_reducible apply q_dInI); (focus ((repeat first | (with_reducible exact upd_same) | (with_reducible assumption) | (with_reducible apply upd_new (by assumption)) | (with_reducible apply upd_other (by first | assumption | exact Ne.symm (by assumption))) | (with_reducible refine' Kp.get (by assumption) ?_ (by first | assumption | exact Ne.symm (by assumption))) | (with_reducible apply Same.get (by assumption))); done)))
  | ((with_reducible apply q_dNInI); (focus ((repeat first | (with_reducible exact upd_same) | (with_reducible assumption) | (with_reducible apply upd_new (by assumption)) | (with_reducible apply upd_other (by first | assumption | exact Ne.symm (by assumption))) | (with_reducible refine' Kp.get (by assumption) ?_ (by first | assumption | exact Ne.symm (by assumption))) | (with_reducible apply Same.get (by assumption))); done)))
  | ((with_reducible apply q_bmL); (focus ((repeat first | (with_reducible exact upd_same) | (with_reducible assumption) | (with_reducible apply upd_new (by assumption)) | (with_reducible apply upd_other (by first | assumption | exact Ne.symm (by assumption))) | (with_reducible refine' Kp.get (by assumption) ?_ (by first | assumption | exact Ne.symm (by assumption))) | (with_reducible apply Same.get (by assumption))); done)))
  | ((with_reducible apply q_bmL0); (focus ((repeat first | (with_reducible exact upd_same) | (with_reducible assumption) | (with_reducible apply upd_new (by assumption)) | (with_reducible apply upd_other (by first | assumption | exact Ne.symm (by assumption))) | (with_reducible refine' Kp.get (by assumption) ?_ (by first | assumption | exact Ne.symm (by assumption))) | (with_reducible apply Same.get (by assumption))); done)))
  | ((with_reducible apply q_ixLt); (focus ((repeat first | (with_reducible exact upd_same) | (with_reducible assumption) | (with_reducible apply upd_new (by assumption)) | (with_reducible apply upd_other (by first | assumption | exact Ne.symm (by assumption))) | (with_reducible refine' Kp.get (by assumption) ?_ (by first | assumption | exact Ne.symm (by assumption))) | (with_reducible apply Same.get (by assumption))); done)); (focus (exact rfl)))
  | ((with_reducible apply q_ixTt); (focus ((repeat first | (with_reducible exact upd_same) | (with_reducible assumption) | (with_reducible apply upd_new (by assumption)) | (with_reducible apply upd_other (by first | assumption | exact Ne.symm (by assumption))) | (with_reducible refine' Kp.get (by assumption) ?_ (by first | assumption | exact Ne.symm (by assumption))) | (with_reducible apply Same.get (by assumption))); done)); (focus (exact rfl)))
  | ((with_reducible apply q_lenLt); (focus ((repeat first | (with_reducible exact upd_same) | (with_reducible assumption) | (with_reducible apply upd_new (by assumption)) | (with_reducible apply upd_other (by first | assumption | exact Ne.symm (by assumption))) | (with_reducible refine' Kp.get (by assumption) ?_ (by first | assumption | exact Ne.symm (by assumption))) | (with_reducible apply Same.get (by assumption))); done)))
  | ((with_reducible apply q_lenTt); (focus ((repeat first | (with_reducible exact upd_same) | (with_reducible assumption) | (with_reducible apply upd_new (by assumption)) | (with_reducible apply upd_other (by first | assumption | exact Ne.symm (by assumption))) | (with_reducible refine' Kp.get (by assumption) ?_ (by first | assumption | exact Ne.symm (by assumption))) | (with_reducible apply Same.get (by assumption))); done)))
  | ((with_reducible apply q_append); (focus ((repeat first | (with_reducible exact upd_same) | (with_reducible assumption) | (with_reducible apply upd_new (by assumption)) | (with_reducible apply upd_other (by first | assumption | exact Ne.symm (by assumption))) | (with_reducible refine' Kp.get (by assumption) ?_ (by first | assumption | exact Ne.symm (by assumption))) | (with_reducible apply Same.get (by assumption))); done)); (focus ((first | (exact Nat.lt_of_ble_eq_true rfl) | (simp only [List.length_append, List.length_cons, List.length_nil, List.length_map]; exact small1000 (by omega))))))
  | ((with_reducible apply q_setL); (focus ((repeat first | (with_reducible exact upd_same) | (with_reducible assumption) | (with_reducible apply upd_new (by assumption)) | (with_reducible apply upd_other (by first | assumption | exact Ne.symm (by assumption))) | (with_reducible refine' Kp.get (by assumption) ?_ (by first | assumption | exact Ne.symm (by assumption))) | (with_reducible apply Same.get (by assumption))); done)); (focus (exact rfl)))
  | with_reducible refine q_ifNT ?_
  | with_reducible refine q_ifNF ?_
  | with_reducible refine q_andNT ?_
  | with_reducible refine q_andNF ?_
  | with_reducible refine q_orNT ?_
  | with_reducible refine q_orNF ?_
  | with_reducible refine q_bKNT ?_
  | with_reducible refine q_bKNF ?_
  | with_reducible refine q_tNGet ?_
  | with_reducible refine q_tNIn ?_
  | with_reducible refine q_sNPut ?_
  | with_reducible refine q_sFldAug ?_
  | with_reducible refine q_sDAug ?_
  | with_reducible refine q_sDDel ?_
  | with_reducible refine q_forX ?_
  | with_reducible refine q_tMake ?_
  | ((with_reducible apply q_dG1a); (focus ((repeat first | (with_reducible exact upd_same) | (with_reducible assumption) | (with_reducible apply upd_new (by assumption)) | (with_reducible apply upd_other (by first | assumption | exact Ne.symm (by assumption))) | (with_reducible refine' Kp.get (by assumption) ?_ (by first | assumption | exact Ne.symm (by assumption))) | (with_reducible apply Same.get (by assumption))); done)))))
/-! blocks that grow -/
theorem take_next' {α : Type} {xs : List α} {i : Nat} {x : α} (h : xs[i]? = some x) : xs.take (i + 1) = xs.take i ++ [x] := by
  rw [List.take_succ, h]; rfl
theorem tip_item {ts : List Int} {i : Nat} {k : Key} {v : V} (h : (tipK ts)[i]? = some (k, v)) : ∃ n, ts[i]? = some n ∧ k = Sum.inl n ∧ v = .bl true := by
  unfold tipK at h
  rw [List.getElem?_map] at h
  obtain ⟨n, h1, h2⟩ := Option.map_eq_some_iff.mp h
  injection h2 with h2 h3
  exact ⟨n, h1, h2.symm, h3.symm⟩
theorem q_dP2T {H : Hp} {Q : VK} {t : Addr} {ts : List Int} {m : Int} {z0 : V} (ht : H t = some (.dK (tipK ts))) (k : ∀ (z : V) (H3 : Hp), (∀ b o, b ≠ t → H b = some o → H3 b = some o) → H3 t = some (.dK (tipK (ts.filter fun k => !decide (k = m)))) → Q z H3) : dP2K Q t (.int m) z0 H := by
  refine ⟨_, Sum.inl m, ht, rfl, fun v hv => ?_, fun hv => ?_⟩
  · refine k _ _ (fun b o q z => upd_other q z) ?_
    rw [tip_drop]; exact upd_same
  · refine k _ _ (fun b o q z => z) ?_
    rw [tip_none hv]; exact ht
section
variable {P : Program} {w : World} {K : PySem.W.Frag} {mg : Str → Option Value} {base : Heap}
theorem ok_Blocks_live_tips (T : Txt K mg) : FnOk P w K mg base CX0 3 T.f_Blocks_live_tips T.d_Blocks_live_tips ["self"] (sp_bkTips T.C_Blocks) := by
  refine T.F_Blocks_live_tips.ok sc_Blocks_live_tips (fun vs H Q E h => ?_) (fun cdv A outer s H vs Q E hr h => ?_)
  · obtain ⟨A, B, rfl, _⟩ := h; rfl
  · obtain ⟨M, B, rfl, hB, hO, hl, k⟩ := h
    obtain ⟨dx, fs, h0, h1, h2, h3, h4, h5, h6, h7⟩ := hB.c.ex
    have hd0 := hB.t
    refine ⟨_, (pss_one (ps_ret (pe_callB cr_sorted (by rfl) T.z_sorted boot_sorted (pa_cons (pe_lock (pe_lc (own := [("number", 1)]) (g := (gName 1)) (tt := (tB (tMeth T.C_Blocks "is_live" (sp_bkLive T.C_Blocks) [] E0 (tVar 0) (tCons (tVar 1) tNil)))) (te := (tVar 1)) rfl sc_Blocks_live_tips.nd (pi_keys (pe_fld (pv 0) rfl)) (blkOk_by (own := [("number", 1)]) (N := ["self", "number"]) (sc := defScope s_Blocks_live_tips) (by decide +kernel)) (fun _ _ _ _ _ => (pg_name (i := 1) sc_Blocks_live_tips.nd rfl (Or.inl rfl))) (fun _ _ _ _ _ => (pts_one (pt_val (pe_meth (pv 0) T.cl_Blocks T.m_Blocks_is_live (ok_Blocks_is_live T) (hr.mono (by decide)) T.b_Blocks_is_live .nil pass0 (pa_cons (pv 1) pa_nil))))) (fun _ _ _ _ _ => (pv 1)))) pa_nil)))), ?_⟩
    (dsimp only [cxOf, Cx.nox, Cx.wish, L2.start, List.map, List.length, List.replicate, List.cons_append, List.nil_append, List.append_eq, Nat.reduceSub, Nat.reduceAdd])
    walk_at "my_rd"
    refine ⟨M.t, _, hB.t, trivial, fun od => ?_⟩
    have hF : upd H M.t (.frz od (.dK (tipK B.tips))) M.t = some (.frz od (.dK (tipK B.tips))) := upd_same
    have xt : M.x ≠ M.t := ne_of h0 hd0 (by intro z; cases z)
    have hCF : BkC T.C_Blocks (upd H M.t (.frz od (.dK (tipK B.tips)))) M B := hB.c.keep (fun o q => upd_other xt q) (fun o q => upd_other hB.n2 q) (fun o q => upd_other hB.n3 q)
    have h0F : upd H M.t (.frz od (.dK (tipK B.tips))) M.x = some (.ins T.C_Blocks dx fs) := upd_other xt h0
    refine q_lc ?_
    unfold iKeys
    walk_at "my_rd"
    refine q_fldK h0F T.cl_Blocks T.n_Blocks_tips h4 ?_
    refine ⟨M.t, od, rfl, .inl ⟨tipK B.tips, hF, fun D nD => ?_⟩⟩
    generalize hHF : upd H M.t (.frz od (.dK (tipK B.tips))) = HF at nD hF hCF h0F
    have keep : ∀ b o, H b = some o → b ≠ M.t → HF b = some o := fun b o q n => by rw [← hHF]; exact upd_other n q
    refine lc_it walk_keys (fun i H2 => Same HF H2 ∧ H2 D = some (.lst (((B.tips.take i).filter fun n => decide (B.live n)).map V.int))) ⟨Same.new (Same.refl _) nD, upd_same⟩ (fun i H2 _ ⟨sm, _⟩ => sm _ _ hF) ?_ ?_
    · rintro i v H2 H3 hi ⟨sm, hD⟩ ⟨rfl, k2, v2, hkv, rfl⟩
      obtain ⟨n, hn, rfl, rfl⟩ := tip_item hkv
      refine q_gName ⟨rfl, ?_⟩
      walk_at "my_rd"
      refine q_methK (sm _ _ h0F) (h6 _ no_bk.2.1) fun R hR => ?_
      walk_at "my_rd"
      refine hR _ _ ⟨M, B, n, rfl, hCF.same sm, hO.t, hO.f, hO.tsub n (List.mem_of_getElem? hn), ?_⟩
      walk_at "my_rd"
      by_cases hlv : B.live n
      · rw [decide_eq_true hlv]
        refine iteT ?_
        walk_at "my_rd"
        refine ⟨_, hD, ?_, Same.new sm nD, ?_⟩
        · have := hO.tl
          have h2 := List.length_filter_le (fun n => decide (B.live n)) (B.tips.take i)
          rw [List.length_take] at h2
          rw [List.length_map]
          exact small1000 (by omega)
        · rw [upd_same, take_next' hn, List.filter_append, List.map_append]
          simp [hlv]; rfl
      · rw [decide_eq_false hlv]
        refine iteF ⟨sm, ?_⟩
        rw [hD, take_next' hn, List.filter_append]
        simp [hlv]
    · rintro H2 ⟨sm, hD⟩
      have el : (tipK B.tips).length = B.tips.length := List.length_map ..
      rw [el, List.take_length] at hD
      refine ⟨sm _ _ hF, ?_⟩
      have nDd : D ≠ M.t := fun e => by rw [e, hF] at nD; cases nD
      have smB : Same H (upd H2 M.t (.dK (tipK B.tips))) := by
        intro c o q
        by_cases e : c = M.t
        · rw [e] at q ⊢
          rw [hd0] at q
          rw [upd_same, q]
        · exact upd_other e (sm _ _ (keep _ _ q e))
      have hD3 : upd H2 M.t (.dK (tipK B.tips)) D = some (.lst ((B.tips.filter fun n => decide (B.live n)).map V.int)) := upd_other nDd hD
      generalize upd H2 M.t (.dK (tipK B.tips)) = H3 at smB hD3 ⊢
      walk_at "my_rd"
      refine ⟨D, _, rfl, sqL hD3, ?_, fun ys q hp hs nq => ?_⟩
      · have := hO.tl
        have h2 := List.length_filter_le (fun n => decide (B.live n)) B.tips
        omega
      · walk_at "my_rd"
        exact k q ys _ (Same.trans smB (Same.up (Same.refl _) nq)) (Same.free smB nq) upd_same hp hs
theorem ok_Blocks_place (T : Txt K mg) : FnOk P w K mg base CX0 2 T.f_Blocks_place T.d_Blocks_place ["self", "number", "parent"] (sp_bkPlace T.C_Blocks) := by
  refine T.F_Blocks_place.ok sc_Blocks_place (fun vs H Q E h => ?_) (fun cdv A outer s H vs Q E hr h => ?_)
  · obtain ⟨A, B, n, m, rfl, _⟩ := h; rfl
  · obtain ⟨M, B, n, m, rfl, hB, hO, hn, hm, hl, k⟩ := h
    have hu := hu_of hr
    obtain ⟨dx, fs, h0, h1, h2, h3, h4, h5, h6, h7⟩ := hB.c.ex
    have xp : M.x ≠ M.p := ne_of h0 hB.c.p (by intro z; cases z)
    have xh : M.x ≠ M.h := ne_of h0 hB.c.h (by intro z; cases z)
    have xt : M.x ≠ M.t := ne_of h0 hB.t (by intro z; cases z)
    have hT := hO.t.add hn hm
    have hni : n ∈ nums (addT B.t n m) := by rw [nums_add]; simp
    have hhn : hgt (addT B.t n m) n = hgt B.t m + 1 := hgt_new hn
    refine ⟨_, (pss_cons (ps_set (i := 3) sc_Blocks_place.nd rfl (Or.inl rfl) (pe_op op_add (pe_dget hu (pe_fld (pv 0) rfl) (pv 2) (fun _ _ => rfl)) pe_int))
      (pss_cons (ps_dput hu (pe_fld (pv 0) rfl) (pv 1) (pv 2) rfl)
      (pss_cons (ps_dput hu (pe_fld (pv 0) rfl) (pv 1) (pv 3) rfl)
      (pss_cons (ps_expr (pe_dpop2 (pe_fld (pv 0) rfl) (pv 2) pe_non ⟨rfl, rfl, rfl, rfl⟩))
      (pss_cons (ps_dput hu (pe_fld (pv 0) rfl) (pv 1) pe_bl rfl)
      (pss_one (ps_if (pt_cmpR op_gt (pe_op op_sub (pv 3) (pe_fld (pv 0) rfl)) (pe_dget hu (pe_fld (pv 0) rfl) (pe_fld (pv 0) rfl) (fun _ _ => rfl)) (nomark _)) (pss_one (ps_fld (pv 0) (pe_meth (pv 0) T.cl_Blocks T.m_Blocks_below (ok_Blocks_below T) (hr.mono (by decide)) T.b_Blocks_below .nil pass0 (pa_cons (pv 1) (pa_cons (pe_op op_sub (pv 3) (pe_fld (pv 0) rfl)) pa_nil))) rfl)) pss_nil))))))), ?_⟩
    (dsimp only [cxOf, Cx.nox, Cx.wish, L2.start, List.map, List.length, List.replicate, List.cons_append, List.nil_append, List.append_eq, Nat.reduceSub, Nat.reduceAdd])
    walk_at "my_rd"
    refine q_fldK h0 T.cl_Blocks T.n_Blocks_heights h3 ?_
    walk_at "my_rd"
    refine q_dGetI hB.c.h (ht_val hm) ?_
    walk_at "my_rd"
    refine q_fldK h0 T.cl_Blocks T.n_Blocks_parents h2 ?_
    walk_at "my_rd"
    refine q_dPutI hB.c.p (by unfold parK; rw [List.length_map]; exact small1000 (by omega)) ?_
    rw [par_put hn]
    have p1 : upd H M.p (.dK (parK (addT B.t n m))) M.p = some (.dK (parK (addT B.t n m))) := upd_same
    have o1 : ∀ b o, b ≠ M.p → H b = some o → upd H M.p (.dK (parK (addT B.t n m))) b = some o := fun b o q z => upd_other q z
    generalize upd H M.p (.dK (parK (addT B.t n m))) = H1 at p1 o1 ⊢
    walk_at "my_rd"
    refine q_fldK (o1 _ _ xp h0) T.cl_Blocks T.n_Blocks_heights h3 ?_
    walk_at "my_rd"
    refine q_dPutI (o1 _ _ hB.n1.symm hB.c.h) (by unfold htK; rw [List.length_map]; exact small1000 (by omega)) ?_
    rw [ht_put hn]
    have p2 : upd H1 M.h (.dK (htK (addT B.t n m))) M.h = some (.dK (htK (addT B.t n m))) := upd_same
    have o2 : ∀ b o, b ≠ M.h → H1 b = some o → upd H1 M.h (.dK (htK (addT B.t n m))) b = some o := fun b o q z => upd_other q z
    generalize upd H1 M.h (.dK (htK (addT B.t n m))) = H2 at p2 o2 ⊢
    walk_at "my_rd"
    refine q_tDPop2 ?_
    walk_at "my_rd"
    refine q_fldK (o2 _ _ xh (o1 _ _ xp h0)) T.cl_Blocks T.n_Blocks_tips h4 ?_
    have t2 := o2 _ _ hB.n3.symm (o1 _ _ hB.n2.symm hB.t)
    refine ⟨M.t, rfl, .inl ⟨_, .inl t2⟩, ?_⟩
    walk_at "my_rd"
    refine q_dP2T t2 fun z H3 o3 p3 => ?_
    walk_at "my_rd"
    have x3 := o3 _ _ xt (o2 _ _ xh (o1 _ _ xp h0))
    refine q_fldK x3 T.cl_Blocks T.n_Blocks_tips h4 ?_
    walk_at "my_rd"
    have hnt : n ∉ B.tips.filter fun k => !decide (k = m) := fun q => hn (hO.tsub n (List.mem_filter.mp q).1)
    refine q_dPutI p3 (by unfold tipK; rw [List.length_map]; have := List.length_filter_le (fun k => !decide (k = m)) B.tips; have := hO.tl; exact small1000 (by omega)) ?_
    rw [tip_put hnt]
    have p4 : upd H3 M.t (.dK (tipK (B.tips.filter (fun k => !decide (k = m)) ++ [n]))) M.t = some (.dK (tipK (B.tips.filter (fun k => !decide (k = m)) ++ [n]))) := upd_same
    have o4 : ∀ b o, b ≠ M.t → H3 b = some o → upd H3 M.t (.dK (tipK (B.tips.filter (fun k => !decide (k = m)) ++ [n]))) b = some o := fun b o q z => upd_other q z
    generalize upd H3 M.t (.dK (tipK (B.tips.filter (fun k => !decide (k = m)) ++ [n]))) = H4 at p4 o4 ⊢
    have x4 := o4 _ _ xt x3
    have q4p := o4 _ _ hB.n2 (o3 _ _ hB.n2 (o2 _ _ hB.n1 p1))
    have q4h := o4 _ _ hB.n3 (o3 _ _ hB.n3 p2)
    have hC4 : BkC T.C_Blocks H4 M ⟨addT B.t n m, B.tips.filter (fun k => !decide (k = m)) ++ [n], B.fin, B.dep⟩ := ⟨⟨dx, fs, x4, h1, h2, h3, h4, h5, h6, h7⟩, q4p, q4h⟩
    have kb4 : Kb M H H4 := fun b o q z1 z2 z3 z4 => o4 _ _ z4 (o3 _ _ z4 (o2 _ _ z3 (o1 _ _ z2 q)))
    clear o1 o2 o3 o4 p1 p2 p3 x3 t2
    walk_at "my_rd"
    refine q_fldK x4 T.cl_Blocks T.n_Blocks_depth h1 ?_
    walk_at "my_rd"
    refine q_fldK x4 T.cl_Blocks T.n_Blocks_heights h3 ?_
    walk_at "my_rd"
    refine q_fldK x4 T.cl_Blocks T.n_Blocks_final h5 ?_
    refine q_dGetI q4h (ht_val (by rw [nums_add]; exact List.mem_append.mpr (.inl hO.f))) ?_
    rw [hgt_old hO.f]
    walk_at "my_rd"
    by_cases hlt : hgt B.t B.fin + B.dep < hgt B.t m + 1
    · rw [decide_eq_true (show ((hgt B.t B.fin : Nat) : Int) < (hgt B.t m : Int) + 1 - (B.dep : Int) by omega)]
      walk_at "my_rd"
      refine q_methK x4 (h6 _ no_bk.1) fun R hR => ?_
      walk_at "my_rd"
      refine q_fldK x4 T.cl_Blocks T.n_Blocks_depth h1 ?_
      walk_at "my_rd"
      refine hR _ _ ⟨M, _, n, hgt B.t m + 1 - B.dep, ?_, hC4, hT, hni, ?_⟩
      · rw [show (((hgt B.t m + 1 - B.dep : Nat)) : Int) = (hgt B.t m : Int) + 1 - (B.dep : Int) by omega]
      walk_at "my_rd"
      refine q_fputK x4 T.cl_Blocks T.n_Blocks_final (by omega) ?_
      walk_at "my_rd"
      have kk : Kp M.x H4 (upd H4 M.x (.ins T.C_Blocks dx (putF "_final" (.int (anc (addT B.t n m) n (hgt B.t m + 1 - B.dep))) fs))) := Kp.upd Kp.refl
      have ef : (B.add n m).fin = anc (addT B.t n m) n (hgt B.t m + 1 - B.dep) := if_pos hlt
      refine k _ ⟨⟨⟨dx, _, upd_same, ?_, ?_, ?_, ?_, ?_, ?_, ?_⟩, kk _ _ q4p xp.symm, kk _ _ q4h xh.symm⟩, kk _ _ p4 xt.symm, hB.n1, hB.n2, hB.n3⟩ (fun b o q z1 z2 z3 z4 => kk _ _ (kb4 b o q z1 z2 z3 z4) z1)
      · rw [lookup_putF, if_neg (by decide +kernel)]; exact h1
      · rw [lookup_putF, if_neg (by decide +kernel)]; exact h2
      · rw [lookup_putF, if_neg (by decide +kernel)]; exact h3
      · rw [lookup_putF, if_neg (by decide +kernel)]; exact h4
      · rw [lookup_putF, if_pos rfl, ef]
      · intro m' hm'
        have hne : ∀ z ∈ bkNames, ¬ m' = z := fun z hz e => hm' (e ▸ hz)
        rw [lookup_putF, if_neg (hne _ (by decide +kernel))]
        exact h6 m' hm'
      · rw [putF_len h5]; exact h7
    · rw [decide_eq_false (show ¬ ((hgt B.t B.fin : Nat) : Int) < (hgt B.t m : Int) + 1 - (B.dep : Int) by omega)]
      walk_at "my_rd"
      have ef : (B.add n m).fin = B.fin := if_neg hlt
      refine k _ ⟨⟨⟨dx, fs, x4, h1, h2, h3, h4, ?_, h6, h7⟩, q4p, q4h⟩, p4, hB.n1, hB.n2, hB.n3⟩ kb4
      rw [ef]; exact h5
end

local macro_rules | `(tactic| walk_at "my_rd") => `(tactic| (repeat first
  | with_reducible refine q_tCons ?_
  | ((with_reducible apply q_var); (focus (exact rfl)))
  | with_reducible refine q_c ?_
  | ((with_reducible apply q_nxE); (focus (with_reducible exact rfl)))
  | with_reducible refine q_bK ?_
  | with_reducible refine q_call ?_
  | with_reducible refine q_callK ?_
  | with_reducible refine q_tNil ?_
  | with_reducible refine q_cb ?_
  | with_reducible refine q_seq ?_
  | with_reducible refine q_asg ?_
  | with_reducible refine q_gName ?_
  | with_reducible refine q_op ?_
  | with_reducible refine q_test ?_
  | with_reducible refine q_tB ?_
  | with_reducible refine q_ifS ?_
  | with_reducible refine q_ret ?_
  | ((with_reducible apply q_rtE); (focus (with_reducible exact rfl)))
  | with_reducible refine q_next ?_
  | with_reducible refine q_ifF ?_
  | with_reducible refine q_ifT ?_
  | with_reducible refine q_drop ?_
  | with_reducible refine q_and ?_
  | with_reducible refine q_or ?_
  | with_reducible refine q_andT ?_
  | with_reducible refine q_andF ?_
  | with_reducible refine q_orF ?_
  | with_reducible refine q_orT ?_
  | with_reducible refine q_andV ?_
  | with_reducible refine q_andVT ?_
  | with_reducible refine q_andVF ?_
  | with_reducible refine q_orV ?_
  | with_reducible refine q_gCons ?_
  | with_reducible refine q_gNil ?_
  | with_reducible refine q_tup ?_
  | with_reducible refine q_lst ?_
  | with_reducible refine q_not ?_
  | with_reducible refine q_notKT ?_
  | with_reducible refine q_notKF ?_
  | with_reducible refine q_I0 ?_
  | with_reducible refine q_eqI ?_
  | with_reducible refine q_neI ?_
  | ((with_reducible refine q_I ?_ ?_); first | decide | omega | exact ⟨by omega, by omega⟩ | exact ⟨by decide, by decide⟩ | exact .inl ⟨by omega, by omega⟩ | exact .inr ⟨by omega, by omega⟩ | exact .inr ⟨by decide, by decide⟩)
  | with_reducible refine q_eqS ?_
  | with_reducible refine q_neS ?_
  | with_reducible refine q_brk ?_
  | with_reducible refine q_ct ?_
  | ((with_reducible apply q_bkE); (focus (with_reducible exact rfl)))
  | ((with_reducible apply q_cnE); (focus (with_reducible exact rfl)))
  | with_reducible refine q_retN ?_
  | with_reducible refine q_gSub ?_
  | with_reducible refine q_for ?_
  | with_reducible refine q_iList ?_
  | with_reducible refine q_iTup ?_
  | with_reducible refine q_iRng1 ?_
  | with_reducible refine q_notK ?_
  | with_reducible refine q_orVT ?_
  | with_reducible refine q_orVF ?_
  | with_reducible refine q_notV ?_
  | with_reducible refine q_notVK ?_
  | with_reducible refine q_ifE ?_
  | with_reducible refine q_ifET ?_
  | with_reducible refine q_ifEF ?_
  | with_reducible refine q_yes ?_
  | with_reducible refine q_un ?_
  | with_reducible refine q_rU ?_
  | with_reducible refine q_abs ?_
  | with_reducible refine q_int1 ?_
  | with_reducible refine q_bm ?_
  | with_reducible refine q_bm0 ?_
  | with_reducible refine q_lc ?_
  | with_reducible refine q_keepT ?_
  | with_reducible refine q_keepF ?_
  | ((with_reducible apply q_aug); (focus (exact rfl)))
  | with_reducible refine q_ipI ?_
  | with_reducible refine q_chain ?_
  | with_reducible refine q_pairC ?_
  | with_reducible refine q_pairsK ?_
  | with_reducible refine q_pairN ?_
  | with_reducible refine q_fld ?_
  | with_reducible refine q_sFld ?_
  | with_reducible refine q_meth ?_
  | with_reducible refine q_makeK ?_
  | with_reducible refine q_isBl ?_
  | with_reducible refine q_notBl ?_
  | with_reducible refine q_sl ?_
  | with_reducible refine q_noPart ?_
  | with_reducible refine q_part ?_
  | with_reducible refine q_partK ?_
  | ((with_reducible apply q_mulStr); (focus (decide +kernel)))
  | with_reducible refine q_chT ?_
  | with_reducible refine q_chF ?_
  | with_reducible refine q_ord ?_
  | with_reducible refine q_iStr0 ?_
  | with_reducible refine q_iStr ?_
  | with_reducible refine q_tDIn ?_
  | with_reducible refine q_tDNotIn ?_
  | with_reducible refine q_tDGet ?_
  | with_reducible refine q_tDGet2 ?_
  | with_reducible refine q_tDGet1 ?_
  | with_reducible refine q_tDSetd ?_
  | ((with_reducible apply q_dG2a); (focus ((repeat first | (with_reducible exact upd_same) | (with_reducible assumption) | (with_reducible apply upd_new (by assumption)) | (with_reducible apply upd_other (by first | assumption | exact Ne.symm (by assumption))) | (with_reducible refine' Kp.get (by assumption) ?_ (by first | assumption | exact Ne.symm (by assumption))) | (with_reducible apply Same.get (by assumption))); done)))
  | ((with_reducible apply q_dSda); (focus ((repeat first | (with_reducible exact upd_same) | (with_reducible assumption) | (with_reducible apply upd_new (by assumption)) | (with_reducible apply upd_other (by first | assumption | exact Ne.symm (by assumption))) | (with_reducible refine' Kp.get (by assumption) ?_ (by first | assumption | exact Ne.symm (by assumption))) | (with_reducible apply Same.get (by assumption))); done)))
  | with_reducible refine q_sDPut ?_
  | ((with_reducible apply q_dInS); (focus ((repeat first | (with_reducible exact upd_same) | (with_reducible assumption) | (with_reducible apply upd_new (by assumption)) | (with_reducible apply upd_other (by first | assumption | exact Ne.symm (by assumption))) | (with_reducible refine' Kp.get (by assumption) ?_ (by first | assumption | exact Ne.symm (by assumption))) | (with_reducible apply Same.get (by assumption))); done)))
  | ((with_reducible apply q_dNInS); (focus ((repeat first | (with_reducible exact upd_same) | (with_reducible assumption) | (with_reducible apply upd_new (by assumption)) | (with_reducible apply upd_other (by first | assumption | exact Ne.symm (by assumption))) | (with_reducible refine' Kp.get (by assumption) ?_ (by first | assumption | exact Ne.symm (by assumption))) | (with_reducible apply Same.get (by assumption))); done)))
  | ((with_reducible apply q_dInI); (focus ((repeat first | (with_reducible exact upd_same) | (with_reducible assumption) | (with_reducible apply upd_new (by assumption)) | (with_reducible apply upd_other (by first | assumption | exact Ne.symm (by assumption))) | (with_reducible refine' Kp.get (by assumption) ?_ (by first | assumption | exact Ne.symm (by assumption))) | (with_reducible apply Same.get (by assumption))); done)))
  | ((with_reducible apply q_dNInI); (focus ((repeat first | (with_reducible exact upd_same) | (with_reducible assumption) | (with_reducible apply upd_new (by assumption)) | (with_reducible apply upd_other (by first | assumption | exact Ne.symm (by assumption))) | (with_reducible refine' Kp.get (by assumption) ?_ (by first | assumption | exact Ne.symm (by assumption))) | (with_reducible apply Same.get (by assumption))); done)))
  | ((with_reducible apply q_bmL); (focus ((repeat first | (with_reducible exact upd_same) | (with_reducible assumption) | (with_reducible apply upd_new (by assumption)) | (with_reducible apply upd_other (by first | assumption | exact Ne.symm (by assumption))) | (with_reducible refine' Kp.get (by assumption) ?_ (by first | assumption | exact Ne.symm (by assumption))) | (with_reducible apply Same.get (by assumption))); done)))
  | ((with_reducible apply q_bmL0); (focus ((repeat first | (with_reducible exact upd_same) | (with_reducible assumption) | (with_reducible apply upd_new (by assumption)) | (with_reducible apply upd_other (by first | assumption | exact Ne.symm (by assumption))) | (with_reducible refine' Kp.get (by assumption) ?_ (by first | assumption | exact Ne.symm (by assumption))) | (with_reducible apply Same.get (by assumption))); done)))
  | ((with_reducible apply q_ixLt); (focus ((repeat first | (with_reducible exact upd_same) | (with_reducible assumption) | (with_reducible apply upd_new (by assumption)) | (with_reducible apply upd_other (by first | assumption | exact Ne.symm (by assumption))) | (with_reducible refine' Kp.get (by assumption) ?_ (by first | assumption | exact Ne.symm (by assumption))) | (with_reducible apply Same.get (by assumption))); done)); (focus (exact rfl)))
  | ((with_reducible apply q_ixTt); (focus ((repeat first | (with_reducible exact upd_same) | (with_reducible assumption) | (with_reducible apply upd_new (by assumption)) | (with_reducible apply upd_other (by first | assumption | exact Ne.symm (by assumption))) | (with_reducible refine' Kp.get (by assumption) ?_ (by first | assumption | exact Ne.symm (by assumption))) | (with_reducible apply Same.get (by assumption))); done)); (focus (exact rfl)))
  | ((with_reducible apply q_lenLt); (focus ((repeat first | (with_reducible exact upd_same) | (with_reducible assumption) | (with_reducible apply upd_new (by assumption)) | (with_reducible apply upd_other (by first | assumption | exact Ne.symm (by assumption))) | (with_reducible refine' Kp.get (by assumption) ?_ (by first | assumption | exact Ne.symm (by assumption))) | (with_reducible apply Same.get (by assumption))); done)))
  | ((with_reducible apply q_lenTt); (focus ((repeat first | (with_reducible exact upd_same) | (with_reducible assumption) | (with_reducible apply upd_new (by assumption)) | (with_reducible apply upd_other (by first | assumption | exact Ne.symm (by assumption))) | (with_reducible refine' Kp.get (by assumption) ?_ (by first | assumption | exact Ne.symm (by assumption))) | (with_reducible apply Same.get (by assumption))); done)))
  | ((with_reducible apply q_append); (focus ((repeat first | (with_reducible exact upd_same) | (with_reducible assumption) | (with_reducible apply upd_new (by assumption)) | (with_reducible apply upd_other (by first | assumption | exact Ne.symm (by assumption))) | (with_reducible refine' Kp.get (by assumption) ?_ (by first | assumption | exact Ne.symm (by assumption))) | (with_reducible apply Same.get (by assumption))); done)); (focus ((first | (exact Nat.lt_of_ble_eq_true rfl) | (simp only [List.length_append, List.length_cons, List.length_nil, List.length_map]; exact small1000 (by omega))))))
  | ((with_reducible apply q_setL); (focus ((repeat first | (with_reducible exact upd_same) | (with_reducible assumption) | (with_reducible apply upd_new (by assumption)) | (with_reducible apply upd_other (by first | assumption | exact Ne.symm (by assumption))) | (with_reducible refine' Kp.get (by assumption) ?_ (by first | assumption | exact Ne.symm (by assumption))) | (with_reducible apply Same.get (by assumption))); done)); (focus (exact rfl)))
  | with_reducible refine q_ifNT ?_
  | with_reducible refine q_ifNF ?_
  | with_reducible refine q_andNT ?_
  | with_reducible refine q_andNF ?_
  | with_reducible refine q_orNT ?_
  | with_reducible refine q_orNF ?_
  | with_reducible refine q_bKNT ?_
  | with_reducible refine q_bKNF ?_
  | with_reducible refine q_tNGet ?_
  | with_reducible refine q_tNIn ?_
  | with_reducible refine q_sNPut ?_
  | with_reducible refine q_sFldAug ?_
  | with_reducible refine q_sDAug ?_
  | with_reducible refine q_sDDel ?_
  | with_reducible refine q_forX ?_
  | with_reducible refine q_tMake ?_
  | ((with_reducible apply q_dG1a); (focus ((repeat first | (with_reducible exact upd_same) | (with_reducible assumption) | (with_reducible apply upd_new (by assumption)) | (with_reducible apply upd_other (by first | assumption | exact Ne.symm (by assumption))) | (with_reducible refine' Kp.get (by assumption) ?_ (by first | assumption | exact Ne.symm (by assumption))) | (with_reducible apply Same.get (by assumption))); done)))))
/-! the ledger, without orders -/
def sp_ab0 (K : PySem.W.Frag) (C Cs Cc : Addr) : Sp := fun vs H Q _ => ∃ (x g oa : Addr) (M : St0) (c : Parts) (cv nv : V), vs = [cv, nv, .ref x, .ref oa] ∧ H oa = some (.tup []) ∧ StAt C Cs H x M ∧ CfgAt Cc c g H M.cf ∧ c.Ok ∧ ShG M.S ∧
  ∀ (r y e rc : Addr) (H' : Hp) (M' : St0), H y = none → H e = none → H rc = none → H' r = some (.tup [.ref y, .ref e, .ref rc]) → H' e = some (.lst []) → H' rc = some (.lst []) → StAt C Cs H' y M' → StEq { M with height := M.height + 1 } M' → (∀ b ∈ M'.all, H b = none) → Same H H' → Q (.ref r) H'
section
variable {P : Program} {w : World} {K : PySem.W.Frag} {mg : Str → Option Value} {base : Heap}
theorem ok_after_block (T : Txt K mg) : FnOk P w K mg base CX0 9 T.f_after_block T.d_after_block ["config", "notary", "state", "orders"] (sp_ab0 K T.C_State T.C_Sheet T.C_Config) := by
  refine T.F_after_block.ok sc_after_block (fun vs H Q E h => ?_) (fun cdv A outer s H vs Q E hr h => ?_)
  · obtain ⟨x, g, oa, M, c, cv, nv, rfl, _⟩ := h; rfl
  · obtain ⟨x, g, oa, M, c, cv, nv, rfl, ho, hM, hC, hc, hG, k⟩ := h
    refine ⟨_, (pss_cons (ps_set (i := 2) sc_after_block.nd rfl (Or.inl rfl) (pe_call (ok_next_height T) (hr.mono (by decide)) (by rfl) T.g_next_height T.F_next_height.kp T.b_next_height .nil pass0 (pa_cons (pv 2) pa_nil)))
      (pss_cons (ps_set (i := 4) sc_after_block.nd rfl (Or.inl rfl) (pe_lst pa_nil))
      (pss_cons (ps_set (i := 5) sc_after_block.nd rfl (Or.inl rfl) (pe_lst pa_nil))
      (pss_cons (ps_for PassesOwn.never rfl (pi_tup (pv 3)) (pg_name (i := 6) sc_after_block.nd rfl (Or.inl rfl))
        (pss_one ps_never))
      (pss_one (ps_ret (pe_tup (pa_cons (pv 2) (pa_cons (pv 4) (pa_cons (pv 5) pa_nil)))))))))), ?_⟩
    (dsimp only [cxOf, Cx.nox, Cx.wish, L2.start, List.map, List.length, List.replicate, List.cons_append, List.nil_append, List.append_eq, Nat.reduceSub, Nat.reduceAdd])
    walk_at "my_rd"
    refine ⟨x, g, M, c, rfl, hM, hC, hc, hG, fun y H1 M1 ny hM1 e1 hf sm1 => ?_⟩
    walk_at "my_rd"
    refine q_lstK (Nat.le_of_ble_eq_true rfl) fun e ne => ?_
    walk_at "my_rd"
    refine q_lstK (Nat.le_of_ble_eq_true rfl) fun rc nrc => ?_
    walk_at "my_rd"
    have ho3 := upd_new (w := .lst []) nrc (upd_new (w := .lst []) ne (sm1 _ _ ho))
    refine q_forT (sqT ho3) (fun i σ' H' => σ' = [some cv, some nv, some (.ref y), some (.ref oa), some (.ref e), some (.ref rc), none, none, none] ∧ H' = upd (upd H1 e (.lst [])) rc (.lst [])) ⟨rfl, rfl⟩ (fun i σ' H' hi q => by rw [q.2]; exact sqT ho3) (fun i x σ' H' hx => by simp at hx) ?_
    rintro σ' H' ⟨rfl, rfl⟩
    walk_at "my_rd"
    refine q_tupK (Nat.le_of_ble_eq_true rfl) fun r nr => ?_
    walk_at "my_rd"
    have sm3 : Same H1 (upd (upd (upd H1 e (.lst [])) rc (.lst [])) r (.tup [.ref y, .ref e, .ref rc])) := Same.up (Same.up (Same.up (Same.refl _) ne) nrc) nr
    exact k r y e rc _ M1 ny (Same.free sm1 ne) (Same.free sm1 (upd_none_back nrc)) upd_same (upd_new nr (upd_new nrc upd_same)) (upd_new nr upd_same) (hM1.same sm3) e1 hf (Same.trans sm1 sm3)
end
/-! a dict by numbers -/
structure Tab (Pr : V → Prop) (ns : List Int) (kvs : List (Key × V)) : Prop where
  len : kvs.length = ns.length
  at_ : ∀ n ∈ ns, ∃ v, valV kvs (Sum.inl n) = some v ∧ Pr v
  no : ∀ n, n ∉ ns → valV kvs (Sum.inl n) = none
theorem Tab.imp {Pr Pr' : V → Prop} {ns : List Int} {kvs : List (Key × V)} (h : Tab Pr ns kvs) (f : ∀ v, Pr v → Pr' v) : Tab Pr' ns kvs :=
  ⟨h.len, fun n m => by obtain ⟨v, a, b⟩ := h.at_ n m; exact ⟨v, a, f v b⟩, h.no⟩
theorem Tab.one {Pr : V → Prop} {n : Int} {v : V} (p : Pr v) : Tab Pr [n] [(Sum.inl n, v)] := by
  refine ⟨rfl, fun k m => ?_, fun k m => ?_⟩
  · rw [List.mem_singleton.mp m]; exact ⟨v, by rw [valV_cons, if_pos rfl], p⟩
  · rw [valV_cons, if_neg (fun e => m (by rw [Sum.inl.inj e]; exact List.mem_singleton.mpr rfl))]; rfl
theorem Tab.put {Pr : V → Prop} {ns : List Int} {kvs : List (Key × V)} {n : Int} {v : V} (h : Tab Pr ns kvs) (hn : n ∉ ns) (p : Pr v) : Tab Pr (ns ++ [n]) (putK kvs (Sum.inl n) v) := by
  rw [putK_new v (h.no n hn)]
  have e : ∀ k : Int, valV (kvs ++ [((Sum.inl n : Key), v)]) (Sum.inl k) = if k = n then some v else valV kvs (Sum.inl k) := fun k => by
    rw [← putK_new v (h.no n hn), valV_put]
    by_cases q : k = n
    · rw [if_pos q, if_pos (by rw [q])]
    · rw [if_neg q, if_neg (fun z => q (Sum.inl.inj z))]
    exact h.no n hn
  refine ⟨by rw [List.length_append, List.length_append, h.len]; rfl, fun k m => ?_, fun k m => ?_⟩
  · rw [e]
    by_cases q : k = n
    · rw [if_pos q]; exact ⟨v, rfl, p⟩
    · rw [if_neg q]
      rcases List.mem_append.mp m with z | z
      · exact h.at_ k z
      · exact absurd (List.mem_singleton.mp z) q
  · rw [e, if_neg (fun q => m (by rw [q]; simp))]
    exact h.no k fun z => m (List.mem_append.mpr (.inl z))
structure ChA where
  x : Addr
  b : BkA
  od : Addr
  sd : Addr
  rd : Addr
  ed : Addr
def ChA.foot (A : ChA) : List Addr := [A.b.x, A.b.p, A.b.h, A.b.t, A.od, A.sd, A.rd, A.ed]
def chNames : List Str := ["_config", "_notary", "_blocks", "_orders", "_states", "_receipts", "_events"]
def tupO (W : Addr → Prop) (H : Hp) (v : V) : Prop := ∃ a, v = .ref a ∧ H a = some (.tup []) ∧ W a
def lstO (W : Addr → Prop) (H : Hp) (v : V) : Prop := ∃ a, v = .ref a ∧ H a = some (.lst []) ∧ W a
def stO (Cs Csh : Addr) (A : ChA) (cf : Addr) (W : Addr → Prop) (H : Hp) (v : V) : Prop := ∃ a M, v = .ref a ∧ StAt Cs Csh H a M ∧ M.cf = cf ∧ ShG M.S ∧ (∀ b, b = a ∨ b ∈ M.all → b ∉ A.foot ∧ W b)
/-- a ledger without orders; what it rests on lies in W -/
structure ChAt (C Cb Cs Csh : Addr) (H : Hp) (A : ChA) (cf nt : Addr) (B : BkM) (W : Addr → Prop) : Prop where
  ex : ∃ dx fs, H A.x = some (.ins C dx fs) ∧ fs.lookup ("_config" : Str) = some (.ref cf) ∧ fs.lookup ("_notary" : Str) = some (.ref nt) ∧ fs.lookup ("_blocks" : Str) = some (.ref A.b.x) ∧ fs.lookup ("_orders" : Str) = some (.ref A.od) ∧ fs.lookup ("_states" : Str) = some (.ref A.sd) ∧ fs.lookup ("_receipts" : Str) = some (.ref A.rd) ∧ fs.lookup ("_events" : Str) = some (.ref A.ed) ∧ (∀ m : Str, m ∉ chNames → fs.lookup m = none)
  b : BkAt Cb H A.b B
  o : BOk B
  od : ∃ kvs, H A.od = some (.dK kvs) ∧ Tab (tupO W H) (nums B.t) kvs
  sd : ∃ kvs, H A.sd = some (.dK kvs) ∧ Tab (stO Cs Csh A cf W H) (nums B.t) kvs
  rd : ∃ kvs, H A.rd = some (.dK kvs) ∧ Tab (lstO W H) (nums B.t) kvs
  ed : ∃ kvs, H A.ed = some (.dK kvs) ∧ Tab (lstO W H) (nums B.t) kvs
  nd : A.foot.Nodup
  nx : A.x ∉ A.foot
  w : ∀ b, b = A.x ∨ b ∈ A.foot → W b
theorem stO.keep {Cs Csh cf : Addr} {A : ChA} {W : Addr → Prop} {H H' : Hp} (e : ∀ b, W b → ∀ o, H b = some o → H' b = some o) {v : V} (h : stO Cs Csh A cf W H v) : stO Cs Csh A cf W H' v := by
  obtain ⟨a, M, e1, hM, e2, g, n⟩ := h
  exact ⟨a, M, e1, hM.keep fun b m o q => e b (n b m).2 o q, e2, g, n⟩
theorem ChAt.keep {C Cb Cs Csh : Addr} {H H' : Hp} {A : ChA} {cf nt : Addr} {B : BkM} {W : Addr → Prop} (h : ChAt C Cb Cs Csh H A cf nt B W) (e : ∀ b, W b → ∀ o, H b = some o → H' b = some o) : ChAt C Cb Cs Csh H' A cf nt B W := by
  obtain ⟨dx, fs, q, r⟩ := h.ex
  obtain ⟨k1, o1, o2⟩ := h.od
  obtain ⟨k2, s1, s2⟩ := h.sd
  obtain ⟨k3, r1, r2⟩ := h.rd
  obtain ⟨k4, v1, v2⟩ := h.ed
  have f : ∀ b ∈ A.foot, W b := fun b m => h.w b (.inr m)
  have t : ∀ v, tupO W H v → tupO W H' v := fun v ⟨a, p1, p2, p3⟩ => ⟨a, p1, e a p3 _ p2, p3⟩
  have l : ∀ v, lstO W H v → lstO W H' v := fun v ⟨a, p1, p2, p3⟩ => ⟨a, p1, e a p3 _ p2, p3⟩
  exact ⟨⟨dx, fs, e _ (h.w _ (.inl rfl)) _ q, r⟩, ⟨h.b.c.keep (fun o z => e _ (f _ (by simp [ChA.foot])) o z) (fun o z => e _ (f _ (by simp [ChA.foot])) o z) (fun o z => e _ (f _ (by simp [ChA.foot])) o z), e _ (f _ (by simp [ChA.foot])) _ h.b.t, h.b.n1, h.b.n2, h.b.n3⟩, h.o,
    ⟨k1, e _ (f _ (by simp [ChA.foot])) _ o1, o2.imp t⟩, ⟨k2, e _ (f _ (by simp [ChA.foot])) _ s1, s2.imp fun v z => z.keep e⟩, ⟨k3, e _ (f _ (by simp [ChA.foot])) _ r1, r2.imp l⟩, ⟨k4, e _ (f _ (by simp [ChA.foot])) _ v1, v2.imp l⟩, h.nd, h.nx, h.w⟩
theorem ChAt.same {C Cb Cs Csh : Addr} {H H' : Hp} {A : ChA} {cf nt : Addr} {B : BkM} {W : Addr → Prop} (h : ChAt C Cb Cs Csh H A cf nt B W) (e : Same H H') : ChAt C Cb Cs Csh H' A cf nt B W := h.keep fun b _ o q => e b o q
theorem ChAt.sub {C Cb Cs Csh : Addr} {H : Hp} {A : ChA} {cf nt : Addr} {B : BkM} {W W' : Addr → Prop} (h : ChAt C Cb Cs Csh H A cf nt B W) (f : ∀ b, W b → W' b) : ChAt C Cb Cs Csh H A cf nt B W' := by
  obtain ⟨k1, o1, o2⟩ := h.od
  obtain ⟨k2, s1, s2⟩ := h.sd
  obtain ⟨k3, r1, r2⟩ := h.rd
  obtain ⟨k4, v1, v2⟩ := h.ed
  exact ⟨h.ex, h.b, h.o, ⟨k1, o1, o2.imp fun v ⟨a, p1, p2, p3⟩ => ⟨a, p1, p2, f a p3⟩⟩, ⟨k2, s1, s2.imp fun v ⟨a, M, p1, p2, p3, p4, p5⟩ => ⟨a, M, p1, p2, p3, p4, fun b m => ⟨(p5 b m).1, f b (p5 b m).2⟩⟩⟩, ⟨k3, r1, r2.imp fun v ⟨a, p1, p2, p3⟩ => ⟨a, p1, p2, f a p3⟩⟩, ⟨k4, v1, v2.imp fun v ⟨a, p1, p2, p3⟩ => ⟨a, p1, p2, f a p3⟩⟩, h.nd, h.nx, fun b m => f b (h.w b m)⟩
def Kf (A : ChA) (H H' : Hp) : Prop := ∀ b o, H b = some o → b ∉ A.foot → H' b = some o
def sp_notE (C : Addr) : Sp := fun vs H Q _ => ∃ (x dx : Addr), vs = [.ref x] ∧ H x = some (.ins C dx []) ∧ ∀ H', Kp x H H' → (∃ o, H' x = some o) → Q .non H'
def sp_chI (C Cb Cs Csh Cc : Addr) : Sp := fun vs H Q _ => ∃ (x dx cf nt g : Addr) (c : Parts) (sd : Str), vs = [.ref x, .str sd, .ref cf, .ref nt] ∧ H x = some (.ins C dx []) ∧ CfgAt Cc c g H cf ∧ c.Ok ∧ 1 ≤ c.depth ∧ c.bals.length ≤ 900 ∧
  ∀ (H' : Hp) (A : ChA), A.x = x → ChAt C Cb Cs Csh H' A cf nt ⟨[⟨0, none, 0⟩], [0], 0, c.depth.toNat⟩ (fun b => b = x ∨ H b = none) → Kp x H H' → Q .non H'
def sp_chA (K : PySem.W.Frag) (C Cb Cs Csh Cc E1 E2 E3 : Addr) : Sp := fun vs H Q E => ∃ (A : ChA) (cf nt g oa : Addr) (c : Parts) (B : BkM) (W : Addr → Prop) (n m : Int), vs = [.ref A.x, .int n, .int m, .ref oa] ∧ H oa = some (.tup []) ∧ ChAt C Cb Cs Csh H A cf nt B W ∧ CfgAt Cc c g H cf ∧ c.Ok ∧ B.t.length < 900 ∧ (∀ b, H b = none → W b) ∧ W oa ∧
  (n ∈ nums B.t → ∀ H', Same H H' → E (.ref E1) none H') ∧ (n ∉ nums B.t → m ∉ nums B.t → ∀ H', Same H H' → E (.ref E2) none H') ∧ (n ∉ nums B.t → m ∈ nums B.t → ¬ B.live m → ∀ H', Same H H' → E (.ref E3) none H') ∧
  (n ∉ nums B.t → m ∈ nums B.t → B.live m → ∀ H', ChAt C Cb Cs Csh H' A cf nt (B.add n m) W → Kf A H H' → Q .non H')
def sp_chN (C Cb : Addr) : Sp := fun vs H Q _ => ∃ (A : ChA) (cf nt Cs Csh : Addr) (B : BkM) (W : Addr → Prop), vs = [.ref A.x] ∧ ChAt C Cb Cs Csh H A cf nt B W ∧ B.t.length < 64 ∧ ∀ (q : Addr) (ys : List Int), H q = none → ys.Perm (nums B.t) → ys.Pairwise (· ≤ ·) → Q (.ref q) (upd H q (.lst (ys.map V.int)))
def sp_chK (C Cb : Addr) : Sp := fun vs H Q _ => ∃ (A : ChA) (cf nt Cs Csh : Addr) (B : BkM) (W : Addr → Prop) (n : Int), vs = [.ref A.x, .int n] ∧ ChAt C Cb Cs Csh H A cf nt B W ∧ n ∈ nums B.t ∧ Q .non H
def sp_chP (C Cb : Addr) : Sp := fun vs H Q _ => ∃ (A : ChA) (cf nt Cs Csh : Addr) (B : BkM) (W : Addr → Prop) (n : Int), vs = [.ref A.x, .int n] ∧ ChAt C Cb Cs Csh H A cf nt B W ∧ n ∈ nums B.t ∧ Q (optV ((fnd B.t n).bind Nd.p)) H
def sp_chF (C Cb : Addr) : Sp := fun vs H Q _ => ∃ (A : ChA) (cf nt Cs Csh : Addr) (B : BkM) (W : Addr → Prop), vs = [.ref A.x] ∧ ChAt C Cb Cs Csh H A cf nt B W ∧ Q (.int B.fin) H
def sp_chT (C Cb : Addr) : Sp := fun vs H Q _ => ∃ (A : ChA) (cf nt Cs Csh : Addr) (B : BkM) (W : Addr → Prop), vs = [.ref A.x] ∧ ChAt C Cb Cs Csh H A cf nt B W ∧ B.t.length < 64 ∧ ∀ (q : Addr) (ys : List Int) (H' : Hp), Same H H' → H q = none → H' q = some (.lst (ys.map V.int)) → ys.Perm (B.tips.filter fun n => decide (B.live n)) → ys.Pairwise (· ≤ ·) → Q (.ref q) H'
theorem no_ch : ("_check_block" : Str) ∉ chNames ∧ ("add" : Str) ∉ chNames ∧ ("numbers" : Str) ∉ chNames ∧ ("parent" : Str) ∉ chNames ∧ ("final" : Str) ∉ chNames ∧ ("tips" : Str) ∉ chNames ∧ ("depth" : Str) ∉ cfgNames := by decide +kernel
section
variable {P : Program} {w : World} {K : PySem.W.Frag} {mg : Str → Option Value} {base : Heap}
theorem ok_Notary_init (T : Txt K mg) : FnOk P w K mg base CX0 1 T.f_Notary_init T.d_Notary_init ["self"] (sp_notE T.C_Notary) := by
  refine T.F_Notary_init.ok sc_Notary_init (fun vs H Q E h => ?_) (fun cdv A outer s H vs Q E hr h => ?_)
  · obtain ⟨x, dx, rfl, _⟩ := h; rfl
  · obtain ⟨x, dx, rfl, hx, k⟩ := h
    refine ⟨_, (pss_cons (ps_fld (pv 0) (pe_lst pa_nil) rfl)
      (pss_one (ps_fld (pv 0) pe_dnewK rfl))), ?_⟩
    (dsimp only [cxOf, Cx.nox, Cx.wish, L2.start, List.map, List.length, List.replicate, List.cons_append, List.nil_append, List.append_eq, Nat.reduceSub, Nat.reduceAdd])
    walk_at "my_rd"
    refine q_lstK (Nat.le_of_ble_eq_true rfl) fun tl ntl => ?_
    walk_at "my_rd"
    refine q_fputK (upd_new ntl hx) T.cl_Notary T.n_Notary_table (by show 0 < 1000; decide) ?_
    walk_at "my_rd"
    refine q_dNew fun nd nnd => ?_
    walk_at "my_rd"
    refine q_fputK (upd_new nnd upd_same) T.cl_Notary T.n_Notary_numbers (Nat.lt_of_le_of_lt (q_fldlen (n := 0) (Nat.le_refl _)) (by decide)) ?_
    walk_at "my_rd"
    exact k _ (Kp.trans (Kp.upd (Kp.new Kp.refl ntl)) (Kp.upd (Kp.new Kp.refl nnd))) ⟨_, upd_same⟩
theorem ok_Chain_check_block (T : Txt K mg) : FnOk P w K mg base CX0 2 T.f_Chain_check_block T.d_Chain_check_block ["self", "number"] (sp_chK T.C_Chain T.C_Blocks) := by
  refine T.F_Chain_check_block.ok sc_Chain_check_block (fun vs H Q E h => ?_) (fun cdv A outer s H vs Q E hr h => ?_)
  · obtain ⟨A, cf, nt, Cs, Csh, B, W, n, rfl, _⟩ := h; rfl
  · obtain ⟨M, cf, nt, Cs, Csh, B, W, n, rfl, hC, hn, k⟩ := h
    obtain ⟨dx, fs, h0, h1, h2, h3, h4, h5, h6, h7, h8⟩ := hC.ex
    obtain ⟨db, fb, b0, _, _, _, _, _, b6, _⟩ := hC.b.c.ex
    refine ⟨_, (pss_one (ps_if (pt_not (pt_val (pe_meth (pe_fld (pv 0) rfl) T.cl_Blocks T.m_Blocks_has (ok_Blocks_has T) (hr.mono (by decide)) T.b_Blocks_has .nil pass0 (pa_cons (pv 1) pa_nil)))) (pss_one ps_never) pss_nil)), ?_⟩
    (dsimp only [cxOf, Cx.nox, Cx.wish, L2.start, List.map, List.length, List.replicate, List.cons_append, List.nil_append, List.append_eq, Nat.reduceSub, Nat.reduceAdd])
    walk_at "my_rd"
    refine q_fldK h0 T.cl_Chain T.n_Chain_blocks h3 ?_
    refine q_methK b0 (b6 _ no_bk.2.2.1) fun R hR => ?_
    walk_at "my_rd"
    refine hR _ _ ⟨M.b, B, n, rfl, hC.b.c, ?_⟩
    rw [decide_eq_true hn]
    walk_at "my_rd"
    exact k
theorem ok_Chain_numbers (T : Txt K mg) : FnOk P w K mg base CX0 2 T.f_Chain_numbers T.d_Chain_numbers ["self"] (sp_chN T.C_Chain T.C_Blocks) := by
  refine T.F_Chain_numbers.ok sc_Chain_numbers (fun vs H Q E h => ?_) (fun cdv A outer s H vs Q E hr h => ?_)
  · obtain ⟨A, cf, nt, Cs, Csh, B, W, rfl, _⟩ := h; rfl
  · obtain ⟨M, cf, nt, Cs, Csh, B, W, rfl, hC, hl, k⟩ := h
    obtain ⟨dx, fs, h0, h1, h2, h3, h4, h5, h6, h7, h8⟩ := hC.ex
    obtain ⟨db, fb, b0, _, _, _, _, _, b6, _⟩ := hC.b.c.ex
    refine ⟨_, (pss_one (ps_ret (pe_meth0 (pe_fld (pv 0) rfl) T.cl_Blocks T.m_Blocks_numbers (ok_Blocks_numbers T) (hr.mono (by decide)) T.b_Blocks_numbers .nil pass0))), ?_⟩
    (dsimp only [cxOf, Cx.nox, Cx.wish, L2.start, List.map, List.length, List.replicate, List.cons_append, List.nil_append, List.append_eq, Nat.reduceSub, Nat.reduceAdd])
    walk_at "my_rd"
    refine q_fldK h0 T.cl_Chain T.n_Chain_blocks h3 ?_
    refine q_methK b0 (b6 _ no_bk.2.2.2.1) fun R hR => ?_
    walk_at "my_rd"
    refine hR _ _ ⟨M.b, B, rfl, hC.b.c, hl, fun q ys nq hp hs => ?_⟩
    walk_at "my_rd"
    exact k q ys nq hp hs
theorem ok_Chain_parent (T : Txt K mg) : FnOk P w K mg base CX0 3 T.f_Chain_parent T.d_Chain_parent ["self", "number"] (sp_chP T.C_Chain T.C_Blocks) := by
  refine T.F_Chain_parent.ok sc_Chain_parent (fun vs H Q E h => ?_) (fun cdv A outer s H vs Q E hr h => ?_)
  · obtain ⟨A, cf, nt, Cs, Csh, B, W, n, rfl, _⟩ := h; rfl
  · obtain ⟨M, cf, nt, Cs, Csh, B, W, n, rfl, hC, hn, k⟩ := h
    obtain ⟨dx, fs, h0, h1, h2, h3, h4, h5, h6, h7, h8⟩ := hC.ex
    obtain ⟨db, fb, b0, _, _, _, _, _, b6, _⟩ := hC.b.c.ex
    refine ⟨_, (pss_cons (ps_expr (pe_meth (pv 0) T.cl_Chain T.m_Chain_check_block (ok_Chain_check_block T) (hr.mono (by decide)) T.b_Chain_check_block .nil pass0 (pa_cons (pv 1) pa_nil)))
      (pss_one (ps_ret (pe_meth (pe_fld (pv 0) rfl) T.cl_Blocks T.m_Blocks_parent (ok_Blocks_parent T) (hr.mono (by decide)) T.b_Blocks_parent .nil pass0 (pa_cons (pv 1) pa_nil))))), ?_⟩
    (dsimp only [cxOf, Cx.nox, Cx.wish, L2.start, List.map, List.length, List.replicate, List.cons_append, List.nil_append, List.append_eq, Nat.reduceSub, Nat.reduceAdd])
    walk_at "my_rd"
    refine q_methK h0 (h8 _ no_ch.1) fun R hR => ?_
    walk_at "my_rd"
    refine hR _ _ ⟨M, cf, nt, Cs, Csh, B, W, n, rfl, hC, hn, ?_⟩
    clear hR
    walk_at "my_rd"
    refine q_fldK h0 T.cl_Chain T.n_Chain_blocks h3 ?_
    refine q_methK b0 (b6 _ no_bk.2.2.2.2.1) fun R hR => ?_
    walk_at "my_rd"
    refine hR _ _ ⟨M.b, B, n, rfl, hC.b.c, hn, ?_⟩
    walk_at "my_rd"
    exact k
theorem ok_Chain_final (T : Txt K mg) : FnOk P w K mg base CX0 2 T.f_Chain_final T.d_Chain_final ["self"] (sp_chF T.C_Chain T.C_Blocks) := by
  refine T.F_Chain_final.ok sc_Chain_final (fun vs H Q E h => ?_) (fun cdv A outer s H vs Q E hr h => ?_)
  · obtain ⟨A, cf, nt, Cs, Csh, B, W, rfl, _⟩ := h; rfl
  · obtain ⟨M, cf, nt, Cs, Csh, B, W, rfl, hC, k⟩ := h
    obtain ⟨dx, fs, h0, h1, h2, h3, h4, h5, h6, h7, h8⟩ := hC.ex
    obtain ⟨db, fb, b0, _, _, _, _, _, b6, _⟩ := hC.b.c.ex
    refine ⟨_, (pss_one (ps_ret (pe_meth0 (pe_fld (pv 0) rfl) T.cl_Blocks T.m_Blocks_final (ok_Blocks_final T) (hr.mono (by decide)) T.b_Blocks_final .nil pass0))), ?_⟩
    (dsimp only [cxOf, Cx.nox, Cx.wish, L2.start, List.map, List.length, List.replicate, List.cons_append, List.nil_append, List.append_eq, Nat.reduceSub, Nat.reduceAdd])
    walk_at "my_rd"
    refine q_fldK h0 T.cl_Chain T.n_Chain_blocks h3 ?_
    refine q_methK b0 (b6 _ no_bk.2.2.2.2.2.1) fun R hR => ?_
    walk_at "my_rd"
    refine hR _ _ ⟨M.b, B, rfl, hC.b.c, ?_⟩
    walk_at "my_rd"
    exact k
theorem ok_Chain_tips (T : Txt K mg) : FnOk P w K mg base CX0 4 T.f_Chain_tips T.d_Chain_tips ["self"] (sp_chT T.C_Chain T.C_Blocks) := by
  refine T.F_Chain_tips.ok sc_Chain_tips (fun vs H Q E h => ?_) (fun cdv A outer s H vs Q E hr h => ?_)
  · obtain ⟨A, cf, nt, Cs, Csh, B, W, rfl, _⟩ := h; rfl
  · obtain ⟨M, cf, nt, Cs, Csh, B, W, rfl, hC, hl, k⟩ := h
    obtain ⟨dx, fs, h0, h1, h2, h3, h4, h5, h6, h7, h8⟩ := hC.ex
    obtain ⟨db, fb, b0, _, _, _, _, _, b6, _⟩ := hC.b.c.ex
    refine ⟨_, (pss_one (ps_ret (pe_meth0 (pe_fld (pv 0) rfl) T.cl_Blocks T.m_Blocks_live_tips (ok_Blocks_live_tips T) (hr.mono (by decide)) T.b_Blocks_live_tips .nil pass0))), ?_⟩
    (dsimp only [cxOf, Cx.nox, Cx.wish, L2.start, List.map, List.length, List.replicate, List.cons_append, List.nil_append, List.append_eq, Nat.reduceSub, Nat.reduceAdd])
    walk_at "my_rd"
    refine q_fldK h0 T.cl_Chain T.n_Chain_blocks h3 ?_
    refine q_methK b0 (b6 _ no_bk.2.2.2.2.2.2.1) fun R hR => ?_
    walk_at "my_rd"
    refine hR _ _ ⟨M.b, B, rfl, hC.b, hC.o, hl, fun q ys H' sm nq hq hp hs => ?_⟩
    walk_at "my_rd"
    exact k q ys H' sm nq hq hp hs
end

local macro_rules | `(tactic| walk_at "my_rd") => `(tactic| (repeat first
  | with_reducible refine q_tCons ?_
  | ((with_reducible apply q_var); (focus (exact rfl)))
  | with_reducible refine q_c ?_
  | ((with_reducible apply q_nxE); (focus (with_reducible exact rfl)))
  | with_reducible refine q_bK ?_
  | with_reducible refine q_call ?_
  | with_reducible refine q_callK ?_
  | with_reducible refine q_tNil ?_
  | with_reducible refine q_cb ?_
  | with_reducible refine q_seq ?_
  | with_reducible refine q_asg ?_
  | with_reducible refine q_gName ?_
  | with_reducible refine q_op ?_
  | with_reducible refine q_test ?_
  | with_reducible refine q_tB ?_
  | with_reducible refine q_ifS ?_
  | with_reducible refine q_ret ?_
  | ((with_reducible apply q_rtE); (focus (with_reducible exact rfl)))
  | with_reducible refine q_next ?_
  | with_reducible refine q_ifF ?_
  | with_reducible refine q_ifT ?_
  | with_reducible refine q_drop ?_
  | with_reducible refine q_and ?_
  | with_reducible refine q_or ?_
  | with_reducible refine q_andT ?_
  | with_reducible refine q_andF ?_
  | with_reducible refine q_orF ?_
  | with_reducible refine q_orT ?_
  | with_reducible refine q_andV ?_
  | with_reducible refine q_andVT ?_
  | with_reducible refine q_andVF ?_
  | with_reducible refine q_orV ?_
  | with_reducible refine q_gCons ?_
  | with_reducible refine q_gNil ?_
  | with_reducible refine q_tup ?_
  | with_reducible refine q_lst ?_
  | with_reducible refine q_not ?_
  | with_reducible refine q_notKT ?_
  | with_reducible refine q_notKF ?_
  | with_reducible refine q_I0 ?_
  | with_reducible refine q_eqI ?_
  | with_reducible refine q_neI ?_
  | ((with_reducible refine q_I ?_ ?_); first | decide | omega | exact ⟨by omega, by omega⟩ | exact ⟨by decide, by decide⟩ | exact .inl ⟨by omega, by omega⟩ | exact .inr ⟨by omega, by omega⟩ | exact .inr ⟨by decide, by decide⟩)
  | with_reducible refine q_eqS ?_
  | with_reducible refine q_neS ?_
  | with_reducible refine q_brk ?_
  | with_reducible refine q_ct ?_
  | ((with_reducible apply q_bkE); (focus (with_reducible exact rfl)))
  | ((with_reducible apply q_cnE); (focus (with_reducible exact rfl)))
  | with_reducible refine q_retN ?_
  | with_reducible refine q_gSub ?_
  | with_reducible refine q_for ?_
  | with_reducible refine q_iList ?_
  | with_reducible refine q_iTup ?_
  | with_reducible refine q_iRng1 ?_
  | with_reducible refine q_notK ?_
  | with_reducible refine q_orVT ?_
  | with_reducible refine q_orVF ?_
  | with_reducible refine q_notV ?_
  | with_reducible refine q_notVK ?_
  | with_reducible refine q_ifE ?_
  | with_reducible refine q_ifET ?_
  | with_reducible refine q_ifEF ?_
  | with_reducible refine q_yes ?_
  | with_reducible refine q_un ?_
  | with_reducible refine q_rU ?_
  | with_reducible refine q_abs ?_
  | with_reducible refine q_int1 ?_
  | with_reducible refine q_bm ?_
  | with_reducible refine q_bm0 ?_
  | with_reducible refine q_lc ?_
  | with_reducible refine q_keepT ?_
  | with_reducible refine q_keepF ?_
  | ((with_reducible apply q_aug); (focus (exact rfl)))
  | with_reducible refine q_ipI ?_
  | with_reducible refine q_chain ?_
  | with_reducible refine q_pairC ?_
  | with_reducible refine q_pairsK ?_
  | with_reducible refine q_pairN ?_
  | with_reducible refine q_fld ?_
  | with_reducible refine q_sFld ?_
  | with_reducible refine q_meth ?_
  | with_reducible refine q_makeK ?_
  | with_reducible refine q_isBl ?_
  | with_reducible refine q_notBl ?_
  | with_reducible refine q_sl ?_
  | with_reducible refine q_noPart ?_
  | with_reducible refine q_part ?_
  | with_reducible refine q_partK ?_
  | ((with_reducible apply q_mulStr); (focus (decide +kernel)))
  | with_reducible refine q_chT ?_
  | with_reducible refine q_chF ?_
  | with_reducible refine q_ord ?_
  | with_reducible refine q_iStr0 ?_
  | with_reducible refine q_iStr ?_
  | with_reducible refine q_tDIn ?_
  | with_reducible refine q_tDNotIn ?_
  | with_reducible refine q_tDGet ?_
  | with_reducible refine q_tDGet2 ?_
  | with_reducible refine q_tDGet1 ?_
  | with_reducible refine q_tDSetd ?_
  | ((with_reducible apply q_dG2a); (focus ((repeat first | (with_reducible exact upd_same) | (with_reducible assumption) | (with_reducible apply upd_new (by assumption)) | (with_reducible apply upd_other (by first | assumption | exact Ne.symm (by assumption))) | (with_reducible refine' Kp.get (by assumption) ?_ (by first | assumption | exact Ne.symm (by assumption))) | (with_reducible apply Same.get (by assumption))); done)))
  | ((with_reducible apply q_dSda); (focus ((repeat first | (with_reducible exact upd_same) | (with_reducible assumption) | (with_reducible apply upd_new (by assumption)) | (with_reducible apply upd_other (by first | assumption | exact Ne.symm (by assumption))) | (with_reducible refine' Kp.get (by assumption) ?_ (by first | assumption | exact Ne.symm (by assumption))) | (with_reducible apply Same.get (by assumption))); done)))
  | with_reducible refine q_sDPut ?_
  | ((with_reducible apply q_dInS); (focus ((repeat first | (with_reducible exact upd_same) | (with_reducible assumption) | (with_reducible apply upd_new (by assumption)) | (with_reducible apply upd_other (by first | assumption | exact Ne.symm (by assumption))) | (with_reducible refine' Kp.get (by assumption) ?_ (by first | assumption | exact Ne.symm (by assumption))) | (with_reducible apply Same.get (by assumption))); done)))
  | ((with_reducible apply q_dNInS); (focus ((repeat first | (with_reducible exact upd_same) | (with_reducible assumption) | (with_reducible apply upd_new (by assumption)) | (with_reducible apply upd_other (by first | assumption | exact Ne.symm (by assumption))) | (with_reducible refine' Kp.get (by assumption) ?_ (by first | assumption | exact Ne.symm (by assumption))) | (with_reducible apply Same.get (by assumption))); done)))
  | ((with_reducible apply q_dInI); (focus ((repeat first | (with_reducible exact upd_same) | (with_reducible assumption) | (with_reducible apply upd_new (by assumption)) | (with_reducible apply upd_other (by first | assumption | exact Ne.symm (by assumption))) | (with_reducible refine' Kp.get (by assumption) ?_ (by first | assumption | exact Ne.symm (by assumption))) | (with_reducible apply Same.get (by assumption))); done)))
  | ((with_reducible apply q_dNInI); (focus ((repeat first | (with_reducible exact upd_same) | (with_reducible assumption) | (with_reducible apply upd_new (by assumption)) | (with_reducible apply upd_other (by first | assumption | exact Ne.symm (by assumption))) | (with_reducible refine' Kp.get (by assumption) ?_ (by first | assumption | exact Ne.symm (by assumption))) | (with_reducible apply Same.get (by assumption))); done)))
  | ((with_reducible apply q_bmL); (focus ((repeat first | (with_reducible exact upd_same) | (with_reducible assumption) | (with_reducible apply upd_new (by assumption)) | (with_reducible apply upd_other (by first | assumption | exact Ne.symm (by assumption))) | (with_reducible refine' Kp.get (by assumption) ?_ (by first | assumption | exact Ne.symm (by assumption))) | (with_reducible apply Same.get (by assumption))); done)))
  | ((with_reducible apply q_bmL0); (focus ((repeat first | (with_reducible exact upd_same) | (with_reducible assumption) | (with_reducible apply upd_new (by assumption)) | (with_reducible apply upd_other (by first | assumption | exact Ne.symm (by assumption))) | (with_reducible refine' Kp.get (by assumption) ?_ (by first | assumption | exact Ne.symm (by assumption))) | (with_reducible apply Same.get (by assumption))); done)))
  | ((with_reducible apply q_ixLt); (focus ((repeat first | (with_reducible exact upd_same) | (with_reducible assumption) | (with_reducible apply upd_new (by assumption)) | (with_reducible apply upd_other (by first | assumption | exact Ne.symm (by assumption))) | (with_reducible refine' Kp.get (by assumption) ?_ (by first | assumption | exact Ne.symm (by assumption))) | (with_reducible apply Same.get (by assumption))); done)); (focus (exact rfl)))
  | ((with_reducible apply q_ixTt); (focus ((repeat first | (with_reducible exact upd_same) | (with_reducible assumption) | (with_reducible apply upd_new (by assumption)) | (with_reducible apply upd_other (by first | assumption | exact Ne.symm (by assumption))) | (with_reducible refine' Kp.get (by assumption) ?_ (by first | assumption | exact Ne.symm (by assumption))) | (with_reducible apply Same.get (by assumption))); done)); (focus (exact rfl)))
  | ((with_reducible apply q_lenLt); (focus ((repeat first | (with_reducible exact upd_same) | (with_reducible assumption) | (with_reducible apply upd_new (by assumption)) | (with_reducible apply upd_other (by first | assumption | exact Ne.symm (by assumption))) | (with_reducible refine' Kp.get (by assumption) ?_ (by first | assumption | exact Ne.symm (by assumption))) | (with_reducible apply Same.get (by assumption))); done)))
  | ((with_reducible apply q_lenTt); (focus ((repeat first | (with_reducible exact upd_same) | (with_reducible assumption) | (with_reducible apply upd_new (by assumption)) | (with_reducible apply upd_other (by first | assumption | exact Ne.symm (by assumption))) | (with_reducible refine' Kp.get (by assumption) ?_ (by first | assumption | exact Ne.symm (by assumption))) | (with_reducible apply Same.get (by assumption))); done)))
  | ((with_reducible apply q_append); (focus ((repeat first | (with_reducible exact upd_same) | (with_reducible assumption) | (with_reducible apply upd_new (by assumption)) | (with_reducible apply upd_other (by first | assumption | exact Ne.symm (by assumption))) | (with_reducible refine' Kp.get (by assumption) ?_ (by first | assumption | exact Ne.symm (by assumption))) | (with_reducible apply Same.get (by assumption))); done)); (focus ((first | (exact Nat.lt_of_ble_eq_true rfl) | (simp only [List.length_append, List.length_cons, List.length_nil, List.length_map]; exact small1000 (by omega))))))
  | ((with_reducible apply q_setL); (focus ((repeat first | (with_reducible exact upd_same) | (with_reducible assumption) | (with_reducible apply upd_new (by assumption)) | (with_reducible apply upd_other (by first | assumption | exact Ne.symm (by assumption))) | (with_reducible refine' Kp.get (by assumption) ?_ (by first | assumption | exact Ne.symm (by assumption))) | (with_reducible apply Same.get (by assumption))); done)); (focus (exact rfl)))
  | with_reducible refine q_ifNT ?_
  | with_reducible refine q_ifNF ?_
  | with_reducible refine q_andNT ?_
  | with_reducible refine q_andNF ?_
  | with_reducible refine q_orNT ?_
  | with_reducible refine q_orNF ?_
  | with_reducible refine q_bKNT ?_
  | with_reducible refine q_bKNF ?_
  | with_reducible refine q_tNGet ?_
  | with_reducible refine q_tNIn ?_
  | with_reducible refine q_sNPut ?_
  | with_reducible refine q_sFldAug ?_
  | with_reducible refine q_sDAug ?_
  | with_reducible refine q_sDDel ?_
  | with_reducible refine q_forX ?_
  | with_reducible refine q_tMake ?_
  | ((with_reducible apply q_dG1a); (focus ((repeat first | (with_reducible exact upd_same) | (with_reducible assumption) | (with_reducible apply upd_new (by assumption)) | (with_reducible apply upd_other (by first | assumption | exact Ne.symm (by assumption))) | (with_reducible refine' Kp.get (by assumption) ?_ (by first | assumption | exact Ne.symm (by assumption))) | (with_reducible apply Same.get (by assumption))); done)))))
/-! a ledger that begins and grows -/
theorem BkAt.keep {C : Addr} {H H' : Hp} {A : BkA} {B : BkM} (h : BkAt C H A B) (e : ∀ b, b = A.x ∨ b = A.p ∨ b = A.h ∨ b = A.t → ∀ o, H b = some o → H' b = some o) : BkAt C H' A B :=
  ⟨h.c.keep (fun o q => e _ (.inl rfl) o q) (fun o q => e _ (.inr (.inl rfl)) o q) (fun o q => e _ (.inr (.inr (.inl rfl))) o q), e _ (.inr (.inr (.inr rfl))) _ h.t, h.n1, h.n2, h.n3⟩
theorem BkAt.some_ {C : Addr} {H : Hp} {A : BkA} {B : BkM} (h : BkAt C H A B) {b : Addr} (m : b = A.x ∨ b = A.p ∨ b = A.h ∨ b = A.t) : (∃ kvs, H b = some (.dK kvs)) ∨ ∃ C dx fs, H b = some (.ins C dx fs) := by
  rcases m with rfl | rfl | rfl | rfl
  · obtain ⟨dx, fs, q, _⟩ := h.c.ex; exact .inr ⟨_, _, _, q⟩
  · exact .inl ⟨_, h.c.p⟩
  · exact .inl ⟨_, h.c.h⟩
  · exact .inl ⟨_, h.t⟩
section
variable {C Cb Cs Csh : Addr} {H H' : Hp} {A : ChA} {cf nt : Addr} {B : BkM} {W : Addr → Prop}
theorem ChAt.footO (h : ChAt C Cb Cs Csh H A cf nt B W) {b : Addr} (m : b ∈ A.foot) : (∃ kvs, H b = some (.dK kvs)) ∨ ∃ C dx fs, H b = some (.ins C dx fs) := by
  simp only [ChA.foot, List.mem_cons, List.not_mem_nil, or_false] at m
  rcases m with m | m | m | m | m | m | m | m
  · exact h.b.some_ (.inl m)
  · exact h.b.some_ (.inr (.inl m))
  · exact h.b.some_ (.inr (.inr (.inl m)))
  · exact h.b.some_ (.inr (.inr (.inr m)))
  · obtain ⟨k, q, _⟩ := h.od; rw [m]; exact .inl ⟨_, q⟩
  · obtain ⟨k, q, _⟩ := h.sd; rw [m]; exact .inl ⟨_, q⟩
  · obtain ⟨k, q, _⟩ := h.rd; rw [m]; exact .inl ⟨_, q⟩
  · obtain ⟨k, q, _⟩ := h.ed; rw [m]; exact .inl ⟨_, q⟩
theorem ChAt.notF (h : ChAt C Cb Cs Csh H A cf nt B W) {a : Addr} (n : H a = none ∨ (∃ xs, H a = some (.tup xs)) ∨ ∃ xs, H a = some (.lst xs)) : a ∉ A.foot := by
  intro m
  rcases h.footO m with ⟨_, q⟩ | ⟨_, _, _, q⟩ <;> rcases n with e | ⟨_, e⟩ | ⟨_, e⟩ <;> (rw [q] at e; cases e)
end
section
variable {P : Program} {w : World} {K : PySem.W.Frag} {mg : Str → Option Value} {base : Heap}
theorem ok_Chain_add (T : Txt K mg) : FnOk P w K mg base (L2.CX P w) 10 T.f_Chain_add T.d_Chain_add ["self", "number", "parent", "orders"] (sp_chA K T.C_Chain T.C_Blocks T.C_State T.C_Sheet T.C_Config T.C_DuplicateBlock T.C_UnknownParent T.C_ConflictsWithFinal) := by
  refine T.F_Chain_add.okX sc_Chain_add (fun vs H Q E h => ?_) (fun cdv A outer s H vs Q E hr h => ?_)
  · obtain ⟨A, cf, nt, g, oa, c, B, W, n, m, rfl, _⟩ := h; rfl
  · obtain ⟨M, cf, nt, g, oa, c, B, W, n, m, rfl, ho, hC, hG, hc, hl, hW, hWo, k1, k2, k3, k4⟩ := h
    have hu := hu_of hr
    obtain ⟨dx, fs, h0, h1, h2, h3, h4, h5, h6, h7, h8⟩ := hC.ex
    obtain ⟨db, fb, b0, _, _, _, _, _, b6, _⟩ := hC.b.c.ex
    refine ⟨_, (pss_cons (ps_if (pt_val (pe_meth (pe_fld (pv 0) rfl) T.cl_Blocks T.m_Blocks_has (ok_Blocks_has T) (hr.mono (by decide)) T.b_Blocks_has .nil pass0 (pa_cons (pv 1) pa_nil))) (pss_one (ps_raise rfl (takes_of rfl rfl rfl rfl) (pmk_own PySem.F.excBase_ValueError T.xe_DuplicateBlock T.g_DuplicateBlock T.ke_DuplicateBlock (raises_own T.be_DuplicateBlock T.te_DuplicateBlock) (by exact rfl)))) pss_nil)
      (pss_cons (ps_if (pt_not (pt_val (pe_meth (pe_fld (pv 0) rfl) T.cl_Blocks T.m_Blocks_has (ok_Blocks_has T) (hr.mono (by decide)) T.b_Blocks_has .nil pass0 (pa_cons (pv 2) pa_nil)))) (pss_one (ps_raise rfl (takes_of rfl rfl rfl rfl) (pmk_own PySem.F.excBase_ValueError T.xe_UnknownParent T.g_UnknownParent T.ke_UnknownParent (raises_own T.be_UnknownParent T.te_UnknownParent) (by exact rfl)))) pss_nil)
      (pss_cons (ps_if (pt_not (pt_val (pe_meth (pe_fld (pv 0) rfl) T.cl_Blocks T.m_Blocks_is_live (ok_Blocks_is_live T) (hr.mono (by decide)) T.b_Blocks_is_live .nil pass0 (pa_cons (pv 2) pa_nil)))) (pss_one (ps_raise rfl (takes_of rfl rfl rfl rfl) (pmk_own PySem.F.excBase_ValueError T.xe_ConflictsWithFinal T.g_ConflictsWithFinal T.ke_ConflictsWithFinal (raises_own T.be_ConflictsWithFinal T.te_ConflictsWithFinal) (by exact rfl)))) pss_nil)
      (pss_cons (ps_for (passes_of rfl) rfl (pi_tup (pv 3)) (pg_name (i := 4) sc_Chain_add.nd rfl (Or.inl rfl))
        (pss_one ps_never))
      (pss_cons (ps_asg (pe_call (ok_after_block T) (hr.mono (by decide)) (by rfl) T.g_after_block T.F_after_block.kp T.b_after_block .nil pass0 (pa_cons (pe_fld (pv 0) rfl) (pa_cons (pe_fld (pv 0) rfl) (pa_cons (pe_dget hu (pe_fld (pv 0) rfl) (pv 2) (fun _ _ => rfl)) (pa_cons (pv 3) pa_nil))))) (pg_tup rfl (pgs_cons (pg_name (i := 5) sc_Chain_add.nd rfl (Or.inl rfl)) (pgs_cons (pg_name (i := 6) sc_Chain_add.nd rfl (Or.inl rfl)) (pgs_cons (pg_name (i := 7) sc_Chain_add.nd rfl (Or.inl rfl)) pgs_nil)))))
      (pss_cons (ps_dput hu (pe_fld (pv 0) rfl) (pv 1) (pv 5) rfl)
      (pss_cons (ps_dput hu (pe_fld (pv 0) rfl) (pv 1) (pv 6) rfl)
      (pss_cons (ps_dput hu (pe_fld (pv 0) rfl) (pv 1) (pv 7) rfl)
      (pss_cons (ps_dput hu (pe_fld (pv 0) rfl) (pv 1) (pv 3) rfl)
      (pss_one (ps_expr (pe_meth (pe_fld (pv 0) rfl) T.cl_Blocks T.m_Blocks_place (ok_Blocks_place T) (hr.mono (by decide)) T.b_Blocks_place .nil pass0 (pa_cons (pv 1) (pa_cons (pv 2) pa_nil)))))))))))))), ?_⟩
    (dsimp only [cxOf, Cx.nox, Cx.wish, L2.start, List.map, List.length, List.replicate, List.cons_append, List.nil_append, List.append_eq, Nat.reduceSub, Nat.reduceAdd])
    walk_at "my_rd"
    refine q_fldK h0 T.cl_Chain T.n_Chain_blocks h3 ?_
    refine q_methK b0 (b6 _ no_bk.2.2.1) fun R hR => ?_
    walk_at "my_rd"
    refine hR _ _ ⟨M.b, B, n, rfl, hC.b.c, ?_⟩
    clear hR
    walk_at "my_rd"
    by_cases hn : n ∈ nums B.t
    · rw [decide_eq_true hn]
      walk_at "my_rd"
      exact k1 hn _ (Same.refl _)
    rw [decide_eq_false hn]
    walk_at "my_rd"
    refine q_fldK h0 T.cl_Chain T.n_Chain_blocks h3 ?_
    refine q_methK b0 (b6 _ no_bk.2.2.1) fun R hR => ?_
    walk_at "my_rd"
    refine hR _ _ ⟨M.b, B, m, rfl, hC.b.c, ?_⟩
    clear hR
    walk_at "my_rd"
    by_cases hm : m ∈ nums B.t
    case neg =>
      rw [decide_eq_false hm]
      walk_at "my_rd"
      exact k2 hn hm _ (Same.refl _)
    rw [decide_eq_true hm]
    walk_at "my_rd"
    refine q_fldK h0 T.cl_Chain T.n_Chain_blocks h3 ?_
    refine q_methK b0 (b6 _ no_bk.2.1) fun R hR => ?_
    walk_at "my_rd"
    refine hR _ _ ⟨M.b, B, m, rfl, hC.b.c, hC.o.t, hC.o.f, hm, ?_⟩
    clear hR
    walk_at "my_rd"
    by_cases hlv : B.live m
    case neg =>
      rw [decide_eq_false hlv]
      walk_at "my_rd"
      exact k3 hn hm hlv _ (Same.refl _)
    rw [decide_eq_true hlv]
    clear k1 k2 k3
    walk_at "my_rd"
    refine q_forT (sqT ho) (fun i σ' H' => σ' = [some (.ref M.x), some (.int n), some (.int m), some (.ref oa), none, none, none, none] ∧ H = H') ⟨rfl, rfl⟩ (fun i σ' H' hi q => by rw [← q.2]; exact sqT ho) (fun i x σ' H' hx => by simp at hx) ?_
    rintro σ' H' ⟨rfl, rfl⟩
    obtain ⟨ks, hsd, tsd⟩ := hC.sd
    obtain ⟨ko, hod, tod⟩ := hC.od
    obtain ⟨kr, hrd, trd⟩ := hC.rd
    obtain ⟨ke, hed, ted⟩ := hC.ed
    obtain ⟨v, hv, a, St, rfl, hSt, ecf, hSG, _⟩ := tsd.at_ m hm
    walk_at "my_rd"
    refine q_fldK h0 T.cl_Chain T.n_Chain_config h1 ?_
    walk_at "my_rd"
    refine q_fldK h0 T.cl_Chain T.n_Chain_notary h2 ?_
    walk_at "my_rd"
    refine q_fldK h0 T.cl_Chain T.n_Chain_states h5 ?_
    walk_at "my_rd"
    refine q_dGetI hsd hv ?_
    walk_at "my_rd"
    refine ⟨a, g, oa, St, c, .ref cf, .ref nt, rfl, ho, hSt, by rw [ecf]; exact hG, hc, hSG, fun r y e rc H1 M1 ny ne nrc hr1 he hrc hM1 eM hf sm1 => ?_⟩
    walk_at "my_rd"
    refine q_gTup (sqT hr1) rfl ?_
    walk_at "my_rd"
    have nd := hC.nd
    simp only [ChA.foot, List.nodup_cons, List.mem_cons, List.not_mem_nil, or_false, not_or] at nd
    obtain ⟨⟨a1, a2, a3, a4, a5, a6, a7⟩, ⟨p1, p2, p3, p4, p5, p6⟩, ⟨q1, q2, q3, q4, q5⟩, ⟨t1, t2, t3, t4⟩, ⟨o1, o2, o3⟩, ⟨s1, s2⟩, r1, _⟩ := nd
    have nx := hC.nx
    simp only [ChA.foot, List.mem_cons, List.not_mem_nil, or_false, not_or] at nx
    obtain ⟨x1, x2, x3, x4, x5, x6, x7, x8⟩ := nx
    have sz : ∀ {Pr : V → Prop} {kv : List (Key × V)}, Tab Pr (nums B.t) kv → kv.length < sizeLine := fun t => by
      rw [t.len]; unfold nums; rw [List.length_map]; exact small1000 (by omega)
    refine q_fldK (sm1 _ _ h0) T.cl_Chain T.n_Chain_states h5 ?_
    walk_at "my_rd"
    refine q_dPutI (sm1 _ _ hsd) (sz tsd) ?_
    have f2 : ∀ b o, b ≠ M.sd → H1 b = some o → upd H1 M.sd (.dK (putK ks (Sum.inl n) (.ref y))) b = some o := fun b o z q => upd_other z q
    have g2 : upd H1 M.sd (.dK (putK ks (Sum.inl n) (.ref y))) M.sd = some (.dK (putK ks (Sum.inl n) (.ref y))) := upd_same
    generalize upd H1 M.sd (.dK (putK ks (Sum.inl n) (.ref y))) = H2 at f2 g2 ⊢
    walk_at "my_rd"
    refine q_fldK (f2 _ _ x6 (sm1 _ _ h0)) T.cl_Chain T.n_Chain_events h7 ?_
    walk_at "my_rd"
    refine q_dPutI (f2 _ _ (Ne.symm s2) (sm1 _ _ hed)) (sz ted) ?_
    have f3 : ∀ b o, b ≠ M.ed → H2 b = some o → upd H2 M.ed (.dK (putK ke (Sum.inl n) (.ref e))) b = some o := fun b o z q => upd_other z q
    have g3 : upd H2 M.ed (.dK (putK ke (Sum.inl n) (.ref e))) M.ed = some (.dK (putK ke (Sum.inl n) (.ref e))) := upd_same
    generalize upd H2 M.ed (.dK (putK ke (Sum.inl n) (.ref e))) = H3 at f3 g3 ⊢
    walk_at "my_rd"
    refine q_fldK (f3 _ _ x8 (f2 _ _ x6 (sm1 _ _ h0))) T.cl_Chain T.n_Chain_receipts h6 ?_
    walk_at "my_rd"
    refine q_dPutI (f3 _ _ r1 (f2 _ _ (Ne.symm s1) (sm1 _ _ hrd))) (sz trd) ?_
    have f4 : ∀ b o, b ≠ M.rd → H3 b = some o → upd H3 M.rd (.dK (putK kr (Sum.inl n) (.ref rc))) b = some o := fun b o z q => upd_other z q
    have g4 : upd H3 M.rd (.dK (putK kr (Sum.inl n) (.ref rc))) M.rd = some (.dK (putK kr (Sum.inl n) (.ref rc))) := upd_same
    generalize upd H3 M.rd (.dK (putK kr (Sum.inl n) (.ref rc))) = H4 at f4 g4 ⊢
    walk_at "my_rd"
    refine q_fldK (f4 _ _ x7 (f3 _ _ x8 (f2 _ _ x6 (sm1 _ _ h0)))) T.cl_Chain T.n_Chain_orders h4 ?_
    walk_at "my_rd"
    refine q_dPutI (f4 _ _ o2 (f3 _ _ o3 (f2 _ _ o1 (sm1 _ _ hod)))) (sz tod) ?_
    have f5 : ∀ b o, b ≠ M.od → H4 b = some o → upd H4 M.od (.dK (putK ko (Sum.inl n) (.ref oa))) b = some o := fun b o z q => upd_other z q
    have g5 : upd H4 M.od (.dK (putK ko (Sum.inl n) (.ref oa))) M.od = some (.dK (putK ko (Sum.inl n) (.ref oa))) := upd_same
    generalize upd H4 M.od (.dK (putK ko (Sum.inl n) (.ref oa))) = H5 at f5 g5 ⊢
    have all5 : ∀ b o, b ≠ M.sd → b ≠ M.ed → b ≠ M.rd → b ≠ M.od → H1 b = some o → H5 b = some o := fun b o z1 z2 z3 z4 q => f5 _ _ z4 (f4 _ _ z3 (f3 _ _ z2 (f2 _ _ z1 q)))
    have gs5 := f5 _ _ (Ne.symm o1) (f4 _ _ s1 (f3 _ _ s2 g2))
    have ge5 := f5 _ _ (Ne.symm o3) (f4 _ _ (Ne.symm r1) g3)
    have gr5 := f5 _ _ (Ne.symm o2) g4
    clear f2 f3 f4 f5 g2 g3 g4
    have hB5 : BkAt T.C_Blocks H5 M.b B := (hC.b.same sm1).keep fun b mb o q => by
      rcases mb with rfl | rfl | rfl | rfl
      · exact all5 _ _ a5 a7 a6 a4 q
      · exact all5 _ _ p4 p6 p5 p3 q
      · exact all5 _ _ q3 q5 q4 q2 q
      · exact all5 _ _ t2 t4 t3 t1 q
    walk_at "my_rd"
    refine q_fldK (all5 _ _ x6 x8 x7 x5 (sm1 _ _ h0)) T.cl_Chain T.n_Chain_blocks h3 ?_
    obtain ⟨dc, fc, c0, _, _, _, _, _, c6, _⟩ := hB5.c.ex
    refine q_methK c0 (c6 _ no_bk.2.2.2.2.2.2.2) fun R hR => ?_
    walk_at "my_rd"
    refine hR _ _ ⟨M.b, B, n, m, rfl, hB5, hC.o, hn, hm, by omega, fun H6 hB6 kb => ?_⟩
    clear hR
    walk_at "my_rd"
    have kf1 : ∀ b o, H1 b = some o → b ∉ M.foot → H6 b = some o := fun b o q z => by
      simp only [ChA.foot, List.mem_cons, List.not_mem_nil, or_false, not_or] at z
      obtain ⟨z1, z2, z3, z4, z5, z6, z7, z8⟩ := z
      exact kb b o (all5 _ _ z6 z8 z7 z5 q) z1 z2 z3 z4
    have kf : Kf M H H6 := fun b o q z => kf1 b o (sm1 _ _ q) z
    have fr : ∀ b, H b = none → b ∉ M.foot := fun b q => hC.notF (.inl q)
    have en : nums (B.add n m).t = nums B.t ++ [n] := nums_add _ _ _
    refine k4 hn hm hlv H6 ⟨⟨dx, fs, kf _ _ h0 hC.nx, h1, h2, h3, h4, h5, h6, h7, h8⟩, hB6, hC.o.add hn hm hlv, ⟨_, kb _ _ g5 (Ne.symm a4) (Ne.symm p3) (Ne.symm q2) (Ne.symm t1), ?_⟩, ⟨_, kb _ _ gs5 (Ne.symm a5) (Ne.symm p4) (Ne.symm q3) (Ne.symm t2), ?_⟩, ⟨_, kb _ _ gr5 (Ne.symm a6) (Ne.symm p5) (Ne.symm q4) (Ne.symm t3), ?_⟩, ⟨_, kb _ _ ge5 (Ne.symm a7) (Ne.symm p6) (Ne.symm q5) (Ne.symm t4), ?_⟩, hC.nd, hC.nx, hC.w⟩ kf
    · rw [en]
      exact (tod.imp fun v ⟨b, z1, z2, z3⟩ => ⟨b, z1, kf _ _ z2 (hC.notF (.inr (.inl ⟨_, z2⟩))), z3⟩).put hn ⟨oa, rfl, kf _ _ ho (hC.notF (.inr (.inl ⟨_, ho⟩))), hWo⟩
    · rw [en]
      refine (tsd.imp fun v ⟨b, N, z1, z2, z3, z4, z5⟩ => ⟨b, N, z1, z2.keep fun d md o q => kf d o q (z5 d md).1, z3, z4, z5⟩).put hn ⟨y, M1, rfl, hM1.keep fun d md o q => kf1 d o q (fr d ?_), by rw [eM.cf]; exact ecf, eM.g hSG, fun d md => ⟨fr d ?_, hW d ?_⟩⟩
      all_goals
        rcases md with rfl | md
        · exact ny
        · exact hf d md
    · rw [en]
      exact (trd.imp fun v ⟨b, z1, z2, z3⟩ => ⟨b, z1, kf _ _ z2 (hC.notF (.inr (.inr ⟨_, z2⟩))), z3⟩).put hn ⟨rc, rfl, kf1 _ _ hrc (fr _ nrc), hW _ nrc⟩
    · rw [en]
      exact (ted.imp fun v ⟨b, z1, z2, z3⟩ => ⟨b, z1, kf _ _ z2 (hC.notF (.inr (.inr ⟨_, z2⟩))), z3⟩).put hn ⟨e, rfl, kf1 _ _ he (fr _ ne), hW _ ne⟩
end

local macro_rules | `(tactic| walk_at "my_rd") => `(tactic| (repeat first
  | with_reducible refine q_tCons ?_
  | ((with_reducible apply q_var); (focus (exact rfl)))
  | with_reducible refine q_c ?_
  | ((with_reducible apply q_nxE); (focus (with_reducible exact rfl)))
  | with_reducible refine q_bK ?_
  | with_reducible refine q_call ?_
  | with_reducible refine q_callK ?_
  | with_reducible refine q_tNil ?_
  | with_reducible refine q_cb ?_
  | with_reducible refine q_seq ?_
  | with_reducible refine q_asg ?_
  | with_reducible refine q_gName ?_
  | with_reducible refine q_op ?_
  | with_reducible refine q_test ?_
  | with_reducible refine q_tB ?_
  | with_reducible refine q_ifS ?_
  | with_reducible refine q_ret ?_
  | ((with_reducible apply q_rtE); (focus (with_reducible exact rfl)))
  | with_reducible refine q_next ?_
  | with_reducible refine q_ifF ?_
  | with_reducible refine q_ifT ?_
  | with_reducible refine q_drop ?_
  | with_reducible refine q_and ?_
  | with_reducible refine q_or ?_
  | with_reducible refine q_andT ?_
  | with_reducible refine q_andF ?_
  | with_reducible refine q_orF ?_
  | with_reducible refine q_orT ?_
  | with_reducible refine q_andV ?_
  | with_reducible refine q_andVT ?_
  | with_reducible refine q_andVF ?_
  | with_reducible refine q_orV ?_
  | with_reducible refine q_gCons ?_
  | with_reducible refine q_gNil ?_
  | with_reducible refine q_tup ?_
  | with_reducible refine q_lst ?_
  | with_reducible refine q_not ?_
  | with_reducible refine q_notKT ?_
  | with_reducible refine q_notKF ?_
  | with_reducible refine q_I0 ?_
  | with_reducible refine q_eqI ?_
  | with_reducible refine q_neI ?_
  | ((with_reducible refine q_I ?_ ?_); first | decide | omega | exact ⟨by omega, by omega⟩ | exact ⟨by decide, by decide⟩ | exact .inl ⟨by omega, by omega⟩ | exact .inr ⟨by omega, by omega⟩ | exact .inr ⟨by decide, by decide⟩)
  | with_reducible refine q_eqS ?_
  | with_reducible refine q_neS ?_
  | with_reducible refine q_brk ?_
  | with_reducible refine q_ct ?_
  | ((with_reducible apply q_bkE); (focus (with_reducible exact rfl)))
  | ((with_reducible apply q_cnE); (focus (with_reducible exact rfl)))
  | with_reducible refine q_retN ?_
  | with_reducible refine q_gSub ?_
  | with_reducible refine q_for ?_
  | with_reducible refine q_iList ?_
  | with_reducible refine q_iTup ?_
  | with_reducible refine q_iRng1 ?_
  | with_reducible refine q_notK ?_
  | with_reducible refine q_orVT ?_
  | with_reducible refine q_orVF ?_
  | with_reducible refine q_notV ?_
  | with_reducible refine q_notVK ?_
  | with_reducible refine q_ifE ?_
  | with_reducible refine q_ifET ?_
  | with_reducible refine q_ifEF ?_
  | with_reducible refine q_yes ?_
  | with_reducible refine q_un ?_
  | with_reducible refine q_rU ?_
  | with_reducible refine q_abs ?_
  | with_reducible refine q_int1 ?_
  | with_reducible refine q_bm ?_
  | with_reducible refine q_bm0 ?_
  | with_reducible refine q_lc ?_
  | with_reducible refine q_keepT ?_
  | with_reducible refine q_keepF ?_
  | ((with_reducible apply q_aug); (focus (exact rfl)))
  | with_reducible refine q_ipI ?_
  | with_reducible refine q_chain ?_
  | with_reducible refine q_pairC ?_
  | with_reducible refine q_pairsK ?_
  | with_reducible refine q_pairN ?_
  | with_reducible refine q_fld ?_
  | with_reducible refine q_sFld ?_
  | with_reducible refine q_meth ?_
  | with_reducible refine q_makeK ?_
  | with_reducible refine q_isBl ?_
  | with_reducible refine q_notBl ?_
  | with_reducible refine q_sl ?_
  | with_reducible refine q_noPart ?_
  | with_reducible refine q_part ?_
  | with_reducible refine q_partK ?_
  | ((with_reducible apply q_mulStr); (focus (decide +kernel)))
  | with_reducible refine q_chT ?_
  | with_reducible refine q_chF ?_
  | with_reducible refine q_ord ?_
  | with_reducible refine q_iStr0 ?_
  | with_reducible refine q_iStr ?_
  | with_reducible refine q_tDIn ?_
  | with_reducible refine q_tDNotIn ?_
  | with_reducible refine q_tDGet ?_
  | with_reducible refine q_tDGet2 ?_
  | with_reducible refine q_tDGet1 ?_
  | with_reducible refine q_tDSetd ?_
  | ((with_reducible apply q_dG2a); (focus ((repeat first | (with_reducible exact upd_same) | (with_reducible assumption) | (with_reducible apply upd_new (by assumption)) | (with_reducible apply upd_other (by first | assumption | exact Ne.symm (by assumption))) | (with_reducible refine' Kp.get (by assumption) ?_ (by first | assumption | exact Ne.symm (by assumption))) | (with_reducible apply Same.get (by assumption))); done)))
  | ((with_reducible apply q_dSda); (focus ((repeat first | (with_reducible exact upd_same) | (with_reducible assumption) | (with_reducible apply upd_new (by assumption)) | (with_reducible apply upd_other (by first | assumption | exact Ne.symm (by assumption))) | (with_reducible refine' Kp.get (by assumption) ?_ (by first | assumption | exact Ne.symm (by assumption))) | (with_reducible apply Same.get (by assumption))); done)))
  | with_reducible refine q_sDPut ?_
  | ((with_reducible apply q_dInS); (focus ((repeat first | (with_reducible exact upd_same) | (with_reducible assumption) | (with_reducible apply upd_new (by assumption)) | (with_reducible apply upd_other (by first | assumption | exact Ne.symm (by assumption))) | (with_reducible refine' Kp.get (by assumption) ?_ (by first | assumption | exact Ne.symm (by assumption))) | (with_reducible apply Same.get (by assumption))); done)))
  | ((with_reducible apply q_dNInS); (focus ((repeat first | (with_reducible exact upd_same) | (with_reducible assumption) | (with_reducible apply upd_new (by assumption)) | (with_reducible apply upd_other (by first | assumption | exact Ne.symm (by assumption))) | (with_reducible refine' Kp.get (by assumption) ?_ (by first | assumption | exact Ne.symm (by assumption))) | (with_reducible apply Same.get (by assumption))); done)))
  | ((with_reducible apply q_dInI); (focus ((repeat first | (with_reducible exact upd_same) | (with_reducible assumption) | (with_reducible apply upd_new (by assumption)) | (with_reducible apply upd_other (by first | assumption | exact Ne.symm (by assumption))) | (with_reducible refine' Kp.get (by assumption) ?_ (by first | assumption | exact Ne.symm (by assumption))) | (with_reducible apply Same.get (by assumption))); done)))
  | ((with_reducible apply q_dNInI); (focus ((repeat first | (with_reducible exact upd_same) | (with_reducible assumption) | (with_reducible apply upd_new (by assumption)) | (with_reducible apply upd_other (by first | assumption | exact Ne.symm (by assumption))) | (with_reducible refine' Kp.get (by assumption) ?_ (by first | assumption | exact Ne.symm (by assumption))) | (with_reducible apply Same.get (by assumption))); done)))
  | ((with_reducible apply q_bmL); (focus ((repeat first | (with_reducible exact upd_same) | (with_reducible assumption) | (with_reducible apply upd_new (by assumption)) | (with_reducible apply upd_other (by first | assumption | exact Ne.symm (by assumption))) | (with_reducible refine' Kp.get (by assumption) ?_ (by first | assumption | exact Ne.symm (by assumption))) | (with_reducible apply Same.get (by assumption))); done)))
  | ((with_reducible apply q_bmL0); (focus ((repeat first | (with_reducible exact upd_same) | (with_reducible assumption) | (with_reducible apply upd_new (by assumption)) | (with_reducible apply upd_other (by first | assumption | exact Ne.symm (by assumption))) | (with_reducible refine' Kp.get (by assumption) ?_ (by first | assumption | exact Ne.symm (by assumption))) | (with_reducible apply Same.get (by assumption))); done)))
  | ((with_reducible apply q_ixLt); (focus ((repeat first | (with_reducible exact upd_same) | (with_reducible assumption) | (with_reducible apply upd_new (by assumption)) | (with_reducible apply upd_other (by first | assumption | exact Ne.symm (by assumption))) | (with_reducible refine' Kp.get (by assumption) ?_ (by first | assumption | exact Ne.symm (by assumption))) | (with_reducible apply Same.get (by assumption))); done)); (focus (exact rfl)))
  | ((with_reducible apply q_ixTt); (focus ((repeat first | (with_reducible exact upd_same) | (with_reducible assumption) | (with_reducible apply upd_new (by assumption)) | (with_reducible apply upd_other (by first | assumption | exact Ne.symm (by assumption))) | (with_reducible refine' Kp.get (by assumption) ?_ (by first | assumption | exact Ne.symm (by assumption))) | (with_reducible apply Same.get (by assumption))); done)); (focus (exact rfl)))
  | ((with_reducible apply q_lenLt); (focus ((repeat first | (with_reducible exact upd_same) | (with_reducible assumption) | (with_reducible apply upd_new (by assumption)) | (with_reducible apply upd_other (by first | assumption | exact Ne.symm (by assumption))) | (with_reducible refine' Kp.get (by assumption) ?_ (by first | assumption | exact Ne.symm (by assumption))) | (with_reducible apply Same.get (by assumption))); done)))
  | ((with_reducible apply q_lenTt); (focus ((repeat first | (with_reducible exact upd_same) | (with_reducible assumption) | (with_reducible apply upd_new (by assumption)) | (with_reducible apply upd_other (by first | assumption | exact Ne.symm (by assumption))) | (with_reducible refine' Kp.get (by assumption) ?_ (by first | assumption | exact Ne.symm (by assumption))) | (with_reducible apply Same.get (by assumption))); done)))
  | ((with_reducible apply q_append); (focus ((repeat first | (with_reducible exact upd_same) | (with_reducible assumption) | (with_reducible apply upd_new (by assumption)) | (with_reducible apply upd_other (by first | assumption | exact Ne.symm (by assumption))) | (with_reducible refine' Kp.get (by assumption) ?_ (by first | assumption | exact Ne.symm (by assumption))) | (with_reducible apply Same.get (by assumption))); done)); (focus ((first | (exact Nat.lt_of_ble_eq_true rfl) | (simp only [List.length_append, List.length_cons, List.length_nil, List.length_map]; exact small1000 (by omega))))))
  | ((with_reducible apply q_setL); (focus ((repeat first | (with_reducible exact upd_same) | (with_reducible assumption) | (with_reducible apply upd_new (by assumption)) | (with_reducible apply upd_other (by first | assumption | exact Ne.symm (by assumption))) | (with_reducible refine' Kp.get (by assumption) ?_ (by first | assumption | exact Ne.symm (by assumption))) | (with_reducible apply Same.get (by assumption))); done)); (focus (exact rfl)))
  | with_reducible refine q_ifNT ?_
  | with_reducible refine q_ifNF ?_
  | with_reducible refine q_andNT ?_
  | with_reducible refine q_andNF ?_
  | with_reducible refine q_orNT ?_
  | with_reducible refine q_orNF ?_
  | with_reducible refine q_bKNT ?_
  | with_reducible refine q_bKNF ?_
  | with_reducible refine q_tNGet ?_
  | with_reducible refine q_tNIn ?_
  | with_reducible refine q_sNPut ?_
  | with_reducible refine q_sFldAug ?_
  | with_reducible refine q_sDAug ?_
  | with_reducible refine q_sDDel ?_
  | with_reducible refine q_forX ?_
  | with_reducible refine q_tMake ?_
  | ((with_reducible apply q_dG1a); (focus ((repeat first | (with_reducible exact upd_same) | (with_reducible assumption) | (with_reducible apply upd_new (by assumption)) | (with_reducible apply upd_other (by first | assumption | exact Ne.symm (by assumption))) | (with_reducible refine' Kp.get (by assumption) ?_ (by first | assumption | exact Ne.symm (by assumption))) | (with_reducible apply Same.get (by assumption))); done)))))
/-! a ledger begins -/
theorem q_qmono {α : Type} {p q : α → Prop} (h : ∀ a, p a → q a) {a : α} (k : p a) : q a := h a k
section
variable {P : Program} {w : World} {K : PySem.W.Frag} {mg : Str → Option Value} {base : Heap}
theorem ok_Chain_init (T : Txt K mg) : FnOk P w K mg base CX0 7 T.f_Chain_init T.d_Chain_init ["self", "side", "config", "notary"] (sp_chI T.C_Chain T.C_Blocks T.C_State T.C_Sheet T.C_Config) := by
  refine T.F_Chain_init.ok sc_Chain_init (fun vs H Q E h => ?_) (fun cdv A outer s H vs Q E hr h => ?_)
  · obtain ⟨x, dx, cf, nt, g, c, sd, rfl, _⟩ := h; rfl
  · obtain ⟨x, dx, cf, nt, g, c, sd, rfl, hx, hC, hc, hd, hbl, k⟩ := h
    refine ⟨_, (pss_cons (ps_fld (pv 0) (pv 2) rfl)
      (pss_cons (ps_fld (pv 0) (pv 3) rfl)
      (pss_cons (ps_fld (pv 0) (pe_make T.mk_Blocks (ok_Blocks_init T) (hr.mono (by decide)) (by rfl) T.g_Blocks T.b_Blocks_init .nil pass0 (pa_cons (pe_meth0 (pv 2) T.cl_Config T.m_Config_depth (ok_Config_depth T) (hr.mono (by decide)) T.b_Config_depth .nil pass0) (pa_cons (pe_glob (v := .int 0) (by rfl) T.c_FIRST ⟨_, rfl⟩) pa_nil))) rfl)
      (pss_cons (ps_fld (pv 0) (pe_disp (pps_cons (pe_glob (v := .int 0) (by rfl) T.c_FIRST ⟨_, rfl⟩) (pe_tup pa_nil) pps_nil) (by rfl) (by rfl) (fun z => by cases z) (by decide)) rfl)
      (pss_cons (ps_fld (pv 0) (pe_disp (pps_cons (pe_glob (v := .int 0) (by rfl) T.c_FIRST ⟨_, rfl⟩) (pe_call (ok_opening_state T) (hr.mono (by decide)) (by rfl) T.g_opening_state T.F_opening_state.kp T.b_opening_state .nil pass0 (pa_cons (pv 2) (pa_cons (pv 1) pa_nil))) pps_nil) (by rfl) (by rfl) (fun z => by cases z) (by decide)) rfl)
      (pss_cons (ps_fld (pv 0) (pe_disp (pps_cons (pe_glob (v := .int 0) (by rfl) T.c_FIRST ⟨_, rfl⟩) (pe_lst pa_nil) pps_nil) (by rfl) (by rfl) (fun z => by cases z) (by decide)) rfl)
      (pss_one (ps_fld (pv 0) (pe_disp (pps_cons (pe_glob (v := .int 0) (by rfl) T.c_FIRST ⟨_, rfl⟩) (pe_lst pa_nil) pps_nil) (by rfl) (by rfl) (fun z => by cases z) (by decide)) rfl)))))))), ?_⟩
    (dsimp only [cxOf, Cx.nox, Cx.wish, L2.start, List.map, List.length, List.replicate, List.cons_append, List.nil_append, List.append_eq, Nat.reduceSub, Nat.reduceAdd])
    walk_at "my_rd"
    refine q_fputK hx T.cl_Chain T.n_Chain_config (by show 0 < 1000; decide) ?_
    have len1 : ((putF "_config" (.ref cf) []) : List (Str × V)).length ≤ 1 := q_fldlen (Nat.le_refl _)
    have hx1 : upd H x (.ins T.C_Chain dx (putF "_config" (.ref cf) [])) x = some (.ins T.C_Chain dx (putF "_config" (.ref cf) [])) := upd_same
    have kp1 : Kp x H (upd H x (.ins T.C_Chain dx (putF "_config" (.ref cf) []))) := Kp.upd Kp.refl
    generalize upd H x (.ins T.C_Chain dx (putF "_config" (.ref cf) [])) = H1 at hx1 kp1 ⊢
    walk_at "my_rd"
    refine q_fputK hx1 T.cl_Chain T.n_Chain_notary (Nat.lt_of_le_of_lt len1 (by decide)) ?_
    have len2 : ((putF "_notary" (.ref nt) (putF "_config" (.ref cf) [])) : List (Str × V)).length ≤ 2 := q_fldlen len1
    generalize hF2 : (putF "_notary" (.ref nt) (putF "_config" (.ref cf) [])) = F2 at len2 ⊢
    have hx2 : upd H1 x (.ins T.C_Chain dx F2) x = some (.ins T.C_Chain dx F2) := upd_same
    have kp2 : Kp x H (upd H1 x (.ins T.C_Chain dx F2)) := Kp.trans kp1 (Kp.upd Kp.refl)
    generalize upd H1 x (.ins T.C_Chain dx F2) = H2 at hx2 kp2 ⊢
    clear hx1 kp1 len1
    have hC2 := CfgAt.kp hC hx kp2
    obtain ⟨dc, fc, _, _, _, _, hc1, _, _, _, _, _, _, _, hc9, _⟩ := id hC2.ex
    walk_at "my_rd"
    refine q_methK hc1 (hc9 _ no_ch.2.2.2.2.2.2) fun R hR => ?_
    walk_at "my_rd"
    refine hR _ _ ⟨cf, g, c, rfl, hC2, ?_⟩
    clear hR hc1 hc9
    walk_at "my_rd"
    intro bx dbx nbx ndbx hneb
    have smM : Same H2 (upd (upd H2 dbx (.own bx)) bx (.ins T.C_Blocks dbx [])) := Same.up (Same.up (Same.refl _) ndbx) (upd_free hneb.symm nbx)
    refine ⟨bx, dbx, c.depth.toNat, by rw [Int.toNat_of_nonneg (by omega)], upd_same, fun H3 bp bh bt zp zh zt hB kpB => ⟨rfl, ?_⟩⟩
    have sm3 : Same H2 H3 := fun b o q => kpB b o (smM _ _ q) (ne_of_none q nbx)
    have fr2 : ∀ b, H2 b = none → b ≠ x ∧ H b = none := fun b q => by
      have n : b ≠ x := (ne_of_none hx2 q).symm
      exact ⟨n, Kp.fresh kp2 hx q n⟩
    obtain ⟨xbx, zbx⟩ := fr2 _ nbx
    obtain ⟨xbp, zbp⟩ := fr2 _ (Same.free smM zp)
    obtain ⟨xbh, zbh⟩ := fr2 _ (Same.free smM zh)
    obtain ⟨xbt, zbt⟩ := fr2 _ (Same.free smM zt)
    have hx3 := sm3 _ _ hx2
    have kp3 : Kp x H H3 := fun b o q n => sm3 _ _ (kp2 _ _ q n)
    have hBx : ∀ b, b = bx ∨ b = bp ∨ b = bh ∨ b = bt → b ≠ x := by rintro b (rfl | rfl | rfl | rfl) <;> assumption
    clear smM zp zh zt fr2 kpB
    walk_at "my_rd"
    refine q_fputK hx3 T.cl_Chain T.n_Chain_blocks (Nat.lt_of_le_of_lt len2 (by decide)) ?_
    have len3 : ((putF "_blocks" (.ref bx) F2) : List (Str × V)).length ≤ 3 := q_fldlen len2
    generalize hF3 : (putF "_blocks" (.ref bx) F2) = F3 at len3 ⊢
    have hx4 : upd H3 x (.ins T.C_Chain dx F3) x = some (.ins T.C_Chain dx F3) := upd_same
    have kk4 : Kp x H3 (upd H3 x (.ins T.C_Chain dx F3)) := Kp.upd Kp.refl
    generalize upd H3 x (.ins T.C_Chain dx F3) = H4 at hx4 kk4 ⊢
    have kp4 := Kp.trans kp3 kk4
    have hB4 : BkAt T.C_Blocks H4 ⟨bx, bp, bh, bt⟩ _ := hB.keep fun b m o q => kk4 _ _ q (hBx b m)
    clear hB hx2 hx3 len2 kk4 kp2 kp3 sm3
    walk_at "my_rd"
    refine q_disp fun od nod => ?_
    walk_at "my_rd"
    refine q_tupK (Nat.le_of_ble_eq_true rfl) fun ot not => ?_
    walk_at "my_rd"
    refine q_dispK (kvs := [(Sum.inl 0, .ref ot)]) (upd_new not upd_same) rfl (by simp) (by simp) ?_
    walk_at "my_rd"
    have hx4' := upd_new (w := .tup []) not (upd_new (w := .dK []) nod hx4)
    have odx : od ≠ x := (ne_of_none hx4 nod).symm
    have otx : ot ≠ x := (ne_of_none (upd_new (w := .dK []) nod hx4) not).symm
    have oto : ot ≠ od := (ne_of_none upd_same not).symm
    have zod : H od = none := Kp.fresh kp4 hx nod odx
    have zot : H ot = none := Kp.fresh kp4 hx (upd_none_back not) otx
    refine q_fputK (upd_other odx.symm hx4') T.cl_Chain T.n_Chain_orders (Nat.lt_of_le_of_lt len3 (by decide)) ?_
    have len4 : ((putF "_orders" (.ref od) F3) : List (Str × V)).length ≤ 4 := q_fldlen len3
    generalize hF4 : (putF "_orders" (.ref od) F3) = F4 at len4 ⊢
    have kk5 : Kp x H4 (upd (upd (upd (upd H4 od (.dK [])) ot (.tup [])) od (.dK [(Sum.inl 0, .ref ot)])) x (.ins T.C_Chain dx F4)) := fun b o q n => upd_other n (upd_other (ne_of_none q nod) (upd_new not (upd_new nod q)))
    have hx5 : upd (upd (upd (upd H4 od (.dK [])) ot (.tup [])) od (.dK [(Sum.inl 0, .ref ot)])) x (.ins T.C_Chain dx F4) x = some (.ins T.C_Chain dx F4) := upd_same
    have od5 : upd (upd (upd (upd H4 od (.dK [])) ot (.tup [])) od (.dK [(Sum.inl 0, .ref ot)])) x (.ins T.C_Chain dx F4) od = some (.dK [(Sum.inl 0, .ref ot)]) := upd_other odx upd_same
    have ot5 : upd (upd (upd (upd H4 od (.dK [])) ot (.tup [])) od (.dK [(Sum.inl 0, .ref ot)])) x (.ins T.C_Chain dx F4) ot = some (.tup []) := upd_other otx (upd_other oto upd_same)
    generalize upd (upd (upd (upd H4 od (.dK [])) ot (.tup [])) od (.dK [(Sum.inl 0, .ref ot)])) x (.ins T.C_Chain dx F4) = H5 at kk5 hx5 od5 ot5 ⊢
    have kp5 := Kp.trans kp4 kk5
    have hB5 := hB4.keep fun b m o q => kk5 _ _ q (hBx b m)
    have bod : ∀ b, b = bx ∨ b = bp ∨ b = bh ∨ b = bt → b ≠ od := fun b m e => by
      rcases hB4.some_ m with ⟨_, q⟩ | ⟨_, _, _, q⟩ <;> (rw [e, nod] at q; cases q)
    clear hB4 hx4 hx4' len3 kk5 kp4 nod not
    walk_at "my_rd"
    refine q_disp fun sdd nsd => ?_
    walk_at "my_rd"
    have smd : Same H5 (upd H5 sdd (.dK [])) := Same.up (Same.refl _) nsd
    have hC5 := (CfgAt.kp hC hx kp5).same smd
    refine ⟨cf, g, c, sd, rfl, hC5, hc, fun y H6 M ny hM eM hfM smo => ?_⟩
    walk_at "my_rd"
    refine q_dispK (kvs := [(Sum.inl 0, .ref y)]) (smo _ _ upd_same) rfl (by simp) (by simp) ?_
    walk_at "my_rd"
    have sdx : sdd ≠ x := (ne_of_none hx5 nsd).symm
    have zsd : H sdd = none := Kp.fresh kp5 hx nsd sdx
    have hx6 := smo _ _ (smd _ _ hx5)
    refine q_fputK (upd_other sdx.symm hx6) T.cl_Chain T.n_Chain_states (Nat.lt_of_le_of_lt len4 (by decide)) ?_
    have len5 : ((putF "_states" (.ref sdd) F4) : List (Str × V)).length ≤ 5 := q_fldlen len4
    generalize hF5 : (putF "_states" (.ref sdd) F4) = F5 at len5 ⊢
    have fM : ∀ b, b = y ∨ b ∈ M.all → H5 b = none ∧ b ≠ sdd ∧ b ≠ x ∧ H b = none := fun b m => by
      have q : upd H5 sdd (.dK []) b = none := by
        rcases m with rfl | m
        · exact ny
        · exact hfM b m
      have q5 := upd_none_back q
      have n := (ne_of_none hx5 q5).symm
      exact ⟨q5, upd_none_ne q, n, Kp.fresh kp5 hx q5 n⟩
    have kk7 : Kp x H5 (upd (upd H6 sdd (.dK [(Sum.inl 0, .ref y)])) x (.ins T.C_Chain dx F5)) := fun b o q n => upd_other n (upd_other (ne_of_none q nsd) (smo _ _ (smd _ _ q)))
    have hx7 : upd (upd H6 sdd (.dK [(Sum.inl 0, .ref y)])) x (.ins T.C_Chain dx F5) x = some (.ins T.C_Chain dx F5) := upd_same
    have sd7 : upd (upd H6 sdd (.dK [(Sum.inl 0, .ref y)])) x (.ins T.C_Chain dx F5) sdd = some (.dK [(Sum.inl 0, .ref y)]) := upd_other sdx upd_same
    have hM7 : StAt T.C_State T.C_Sheet (upd (upd H6 sdd (.dK [(Sum.inl 0, .ref y)])) x (.ins T.C_Chain dx F5)) y M := hM.keep fun b m o q => upd_other (fM b m).2.2.1 (upd_other (fM b m).2.1 q)
    generalize upd (upd H6 sdd (.dK [(Sum.inl 0, .ref y)])) x (.ins T.C_Chain dx F5) = H7 at kk7 hx7 sd7 hM7 ⊢
    have kp7 := Kp.trans kp5 kk7
    have hB7 := hB5.keep fun b m o q => kk7 _ _ q (hBx b m)
    have od7 := kk7 _ _ od5 odx
    have ot7 := kk7 _ _ ot5 otx
    have bsd : ∀ b, b = bx ∨ b = bp ∨ b = bh ∨ b = bt → b ≠ sdd := fun b m e => by
      rcases hB5.some_ m with ⟨_, q⟩ | ⟨_, _, _, q⟩ <;> (rw [e, nsd] at q; cases q)
    have ods : od ≠ sdd := ne_of_none od5 nsd
    have fMb : ∀ b, b = y ∨ b ∈ M.all → b ≠ bx ∧ b ≠ bp ∧ b ≠ bh ∧ b ≠ bt ∧ b ≠ od := fun b m => by
      have q := (fM b m).1
      refine ⟨?_, ?_, ?_, ?_, fun e => ?_⟩
      · intro e; rcases hB5.some_ (b := b) (.inl e) with ⟨_, z⟩ | ⟨_, _, _, z⟩ <;> (rw [q] at z; cases z)
      · intro e; rcases hB5.some_ (b := b) (.inr (.inl e)) with ⟨_, z⟩ | ⟨_, _, _, z⟩ <;> (rw [q] at z; cases z)
      · intro e; rcases hB5.some_ (b := b) (.inr (.inr (.inl e))) with ⟨_, z⟩ | ⟨_, _, _, z⟩ <;> (rw [q] at z; cases z)
      · intro e; rcases hB5.some_ (b := b) (.inr (.inr (.inr e))) with ⟨_, z⟩ | ⟨_, _, _, z⟩ <;> (rw [q] at z; cases z)
      · rw [e, od5] at q; cases q
    clear hB5 hx5 hx6 len4 kk7 kp5 nsd smd hC5 smo hfM hM od5 ot5
    walk_at "my_rd"
    refine q_disp fun rd nrd => ?_
    walk_at "my_rd"
    refine q_lstK (Nat.le_of_ble_eq_true rfl) fun rl nrl => ?_
    walk_at "my_rd"
    refine q_dispK (kvs := [(Sum.inl 0, .ref rl)]) (upd_new nrl upd_same) rfl (by simp) (by simp) ?_
    walk_at "my_rd"
    have rdx : rd ≠ x := (ne_of_none hx7 nrd).symm
    have rlx : rl ≠ x := (ne_of_none (upd_new (w := .dK []) nrd hx7) nrl).symm
    have rlr : rl ≠ rd := (ne_of_none upd_same nrl).symm
    have zrd : H rd = none := Kp.fresh kp7 hx nrd rdx
    have zrl : H rl = none := Kp.fresh kp7 hx (upd_none_back nrl) rlx
    refine q_fputK (upd_other rdx.symm (upd_new (w := .lst []) nrl (upd_new (w := .dK []) nrd hx7))) T.cl_Chain T.n_Chain_receipts (Nat.lt_of_le_of_lt len5 (by decide)) ?_
    have len6 : ((putF "_receipts" (.ref rd) F5) : List (Str × V)).length ≤ 6 := q_fldlen len5
    generalize hF6 : (putF "_receipts" (.ref rd) F5) = F6 at len6 ⊢
    have kk8 : Kp x H7 (upd (upd (upd (upd H7 rd (.dK [])) rl (.lst [])) rd (.dK [(Sum.inl 0, .ref rl)])) x (.ins T.C_Chain dx F6)) := fun b o q n => upd_other n (upd_other (ne_of_none q nrd) (upd_new nrl (upd_new nrd q)))
    have hx8 : upd (upd (upd (upd H7 rd (.dK [])) rl (.lst [])) rd (.dK [(Sum.inl 0, .ref rl)])) x (.ins T.C_Chain dx F6) x = some (.ins T.C_Chain dx F6) := upd_same
    have rd8 : upd (upd (upd (upd H7 rd (.dK [])) rl (.lst [])) rd (.dK [(Sum.inl 0, .ref rl)])) x (.ins T.C_Chain dx F6) rd = some (.dK [(Sum.inl 0, .ref rl)]) := upd_other rdx upd_same
    have rl8 : upd (upd (upd (upd H7 rd (.dK [])) rl (.lst [])) rd (.dK [(Sum.inl 0, .ref rl)])) x (.ins T.C_Chain dx F6) rl = some (.lst []) := upd_other rlx (upd_other rlr upd_same)
    generalize upd (upd (upd (upd H7 rd (.dK [])) rl (.lst [])) rd (.dK [(Sum.inl 0, .ref rl)])) x (.ins T.C_Chain dx F6) = H8 at kk8 hx8 rd8 rl8 ⊢
    have kp8 := Kp.trans kp7 kk8
    have hB8 := hB7.keep fun b m o q => kk8 _ _ q (hBx b m)
    have hM8 := hM7.keep fun b m o q => kk8 _ _ q (fM b m).2.2.1
    have od8 := kk8 _ _ od7 odx
    have ot8 := kk8 _ _ ot7 otx
    have sd8 := kk8 _ _ sd7 sdx
    have brd : ∀ b, b = bx ∨ b = bp ∨ b = bh ∨ b = bt → b ≠ rd := fun b m e => by
      rcases hB7.some_ m with ⟨_, q⟩ | ⟨_, _, _, q⟩ <;> (rw [e, nrd] at q; cases q)
    have odr : od ≠ rd := ne_of_none od7 nrd
    have sdr : sdd ≠ rd := ne_of_none sd7 nrd
    have fMr : ∀ b, b = y ∨ b ∈ M.all → b ≠ rd := fun b m => by
      obtain ⟨o, q⟩ := hM7.some_ m
      exact ne_of_none q nrd
    clear hB7 hM7 hx7 len5 kk8 kp7 nrd nrl od7 ot7 sd7
    walk_at "my_rd"
    refine q_disp fun ed ned => ?_
    walk_at "my_rd"
    refine q_lstK (Nat.le_of_ble_eq_true rfl) fun el nel => ?_
    walk_at "my_rd"
    refine q_dispK (kvs := [(Sum.inl 0, .ref el)]) (upd_new nel upd_same) rfl (by simp) (by simp) ?_
    walk_at "my_rd"
    have edx : ed ≠ x := (ne_of_none hx8 ned).symm
    have elx : el ≠ x := (ne_of_none (upd_new (w := .dK []) ned hx8) nel).symm
    have ele : el ≠ ed := (ne_of_none upd_same nel).symm
    have zed : H ed = none := Kp.fresh kp8 hx ned edx
    have zel : H el = none := Kp.fresh kp8 hx (upd_none_back nel) elx
    refine q_fputK (upd_other edx.symm (upd_new (w := .lst []) nel (upd_new (w := .dK []) ned hx8))) T.cl_Chain T.n_Chain_events (Nat.lt_of_le_of_lt len6 (by decide)) ?_
    have kk9 : Kp x H8 (upd (upd (upd (upd H8 ed (.dK [])) el (.lst [])) ed (.dK [(Sum.inl 0, .ref el)])) x (.ins T.C_Chain dx (putF "_events" (.ref ed) F6))) := fun b o q n => upd_other n (upd_other (ne_of_none q ned) (upd_new nel (upd_new ned q)))
    have hx9 : upd (upd (upd (upd H8 ed (.dK [])) el (.lst [])) ed (.dK [(Sum.inl 0, .ref el)])) x (.ins T.C_Chain dx (putF "_events" (.ref ed) F6)) x = some (.ins T.C_Chain dx (putF "_events" (.ref ed) F6)) := upd_same
    have ed9 : upd (upd (upd (upd H8 ed (.dK [])) el (.lst [])) ed (.dK [(Sum.inl 0, .ref el)])) x (.ins T.C_Chain dx (putF "_events" (.ref ed) F6)) ed = some (.dK [(Sum.inl 0, .ref el)]) := upd_other edx upd_same
    have el9 : upd (upd (upd (upd H8 ed (.dK [])) el (.lst [])) ed (.dK [(Sum.inl 0, .ref el)])) x (.ins T.C_Chain dx (putF "_events" (.ref ed) F6)) el = some (.lst []) := upd_other elx (upd_other ele upd_same)
    generalize upd (upd (upd (upd H8 ed (.dK [])) el (.lst [])) ed (.dK [(Sum.inl 0, .ref el)])) x (.ins T.C_Chain dx (putF "_events" (.ref ed) F6)) = H9 at kk9 hx9 ed9 el9 ⊢
    have kp9 := Kp.trans kp8 kk9
    have hB9 := hB8.keep fun b m o q => kk9 _ _ q (hBx b m)
    have hM9 := hM8.keep fun b m o q => kk9 _ _ q (fM b m).2.2.1
    have bed : ∀ b, b = bx ∨ b = bp ∨ b = bh ∨ b = bt → b ≠ ed := fun b m e => by
      rcases hB8.some_ m with ⟨_, q⟩ | ⟨_, _, _, q⟩ <;> (rw [e, ned] at q; cases q)
    have ode : od ≠ ed := ne_of_none od8 ned
    have sde : sdd ≠ ed := ne_of_none sd8 ned
    have rde : rd ≠ ed := ne_of_none rd8 ned
    have fMe : ∀ b, b = y ∨ b ∈ M.all → b ≠ ed := fun b m => by
      obtain ⟨o, q⟩ := hM8.some_ m
      exact ne_of_none q ned
    walk_at "my_rd"
    obtain ⟨e1, _, _, _, _, _, _, _, _, _, _, _, e13, e14, _⟩ := eM
    have hG : ShG M.S := by
      have hb := (openT_B (c.bals.filter fun b => decide (c.homeOf b.tok = sd)) _ rfl).len
      have h1 := List.length_filter_le (fun b => decide (c.homeOf b.tok = sd)) c.bals
      refine ⟨by rw [e13]; omega, by rw [e14]; exact Nat.zero_le _, by rw [e13]; exact openT_nd _, by rw [e14]; exact List.nodup_nil⟩
    have dbx' := ne_of (show H9 bx = some _ from (hB9.c.ex.choose_spec.choose_spec).1) hB9.c.p (by intro z; cases z)
    have dbh' := ne_of (show H9 bx = some _ from (hB9.c.ex.choose_spec.choose_spec).1) hB9.c.h (by intro z; cases z)
    have dbt' := ne_of (show H9 bx = some _ from (hB9.c.ex.choose_spec.choose_spec).1) hB9.t (by intro z; cases z)
    refine k H9 ⟨x, ⟨bx, bp, bh, bt⟩, od, sdd, rd, ed⟩ rfl ⟨⟨dx, _, hx9, ?_, ?_, ?_, ?_, ?_, ?_, ?_, ?_⟩, hB9, BOk.first _ (by omega), ⟨_, kk9 _ _ od8 odx, Tab.one ⟨ot, rfl, kk9 _ _ ot8 otx, .inr zot⟩⟩, ⟨_, kk9 _ _ sd8 sdx, Tab.one ⟨y, M, rfl, hM9, e1, hG, fun b m => ⟨?_, .inr (fM b m).2.2.2⟩⟩⟩,
      ⟨_, kk9 _ _ rd8 rdx, Tab.one ⟨rl, rfl, kk9 _ _ rl8 rlx, .inr zrl⟩⟩, ⟨_, ed9, Tab.one ⟨el, rfl, el9, .inr zel⟩⟩, ?_, ?_, fun b m => ?_⟩ kp9
    case refine_1 => subst hF6; subst hF5; subst hF4; subst hF3; subst hF2; (repeat first | rfl | rw [lookup_putF, if_pos rfl] | rw [lookup_putF, if_neg (by decide +kernel)])
    case refine_2 => subst hF6; subst hF5; subst hF4; subst hF3; subst hF2; (repeat first | rfl | rw [lookup_putF, if_pos rfl] | rw [lookup_putF, if_neg (by decide +kernel)])
    case refine_3 => subst hF6; subst hF5; subst hF4; subst hF3; subst hF2; (repeat first | rfl | rw [lookup_putF, if_pos rfl] | rw [lookup_putF, if_neg (by decide +kernel)])
    case refine_4 => subst hF6; subst hF5; subst hF4; subst hF3; subst hF2; (repeat first | rfl | rw [lookup_putF, if_pos rfl] | rw [lookup_putF, if_neg (by decide +kernel)])
    case refine_5 => subst hF6; subst hF5; subst hF4; subst hF3; subst hF2; (repeat first | rfl | rw [lookup_putF, if_pos rfl] | rw [lookup_putF, if_neg (by decide +kernel)])
    case refine_6 => subst hF6; subst hF5; subst hF4; subst hF3; subst hF2; (repeat first | rfl | rw [lookup_putF, if_pos rfl] | rw [lookup_putF, if_neg (by decide +kernel)])
    case refine_7 => subst hF6; subst hF5; subst hF4; subst hF3; subst hF2; (repeat first | rfl | rw [lookup_putF, if_pos rfl] | rw [lookup_putF, if_neg (by decide +kernel)])
    case refine_8 =>
      intro m hm
      have hne : ∀ z ∈ chNames, ¬ m = z := fun z hz e => hm (e ▸ hz)
      subst hF6; subst hF5; subst hF4; subst hF3; subst hF2
      rw [lookup_putF, if_neg (hne _ (by decide +kernel)), lookup_putF, if_neg (hne _ (by decide +kernel)), lookup_putF, if_neg (hne _ (by decide +kernel)), lookup_putF, if_neg (hne _ (by decide +kernel)), lookup_putF, if_neg (hne _ (by decide +kernel)), lookup_putF, if_neg (hne _ (by decide +kernel)), lookup_putF, if_neg (hne _ (by decide +kernel))]
      rfl
    case refine_9 =>
      obtain ⟨w1, w2, w3, w4, w5⟩ := fMb b m
      simp only [ChA.foot, List.mem_cons, List.not_mem_nil, or_false, not_or]
      exact ⟨w1, w2, w3, w4, w5, (fM b m).2.1, fMr b m, fMe b m⟩
    case refine_10 =>
      simp only [ChA.foot, List.nodup_cons, List.mem_cons, List.not_mem_nil, or_false, not_or, not_false_eq_true, List.nodup_nil, and_true]
      exact ⟨⟨dbx', dbh', dbt', bod _ (.inl rfl), bsd _ (.inl rfl), brd _ (.inl rfl), bed _ (.inl rfl)⟩, ⟨hB9.n1, hB9.n2, bod _ (.inr (.inl rfl)), bsd _ (.inr (.inl rfl)), brd _ (.inr (.inl rfl)), bed _ (.inr (.inl rfl))⟩,
        ⟨hB9.n3, bod _ (.inr (.inr (.inl rfl))), bsd _ (.inr (.inr (.inl rfl))), brd _ (.inr (.inr (.inl rfl))), bed _ (.inr (.inr (.inl rfl)))⟩, ⟨bod _ (.inr (.inr (.inr rfl))), bsd _ (.inr (.inr (.inr rfl))), brd _ (.inr (.inr (.inr rfl))), bed _ (.inr (.inr (.inr rfl)))⟩,
        ⟨ods, odr, ode⟩, ⟨sdr, sde⟩, rde⟩
    case refine_11 =>
      simp only [ChA.foot, List.mem_cons, List.not_mem_nil, or_false, not_or]
      exact ⟨xbx.symm, xbp.symm, xbh.symm, xbt.symm, odx.symm, sdx.symm, rdx.symm, edx.symm⟩
    case refine_12 =>
      rcases m with rfl | m
      · exact .inl rfl
      · simp only [ChA.foot, List.mem_cons, List.not_mem_nil, or_false] at m
        rcases m with rfl | rfl | rfl | rfl | rfl | rfl | rfl | rfl <;> exact .inr (by assumption)
end

local macro_rules | `(tactic| walk_at "my_rd") => `(tactic| (repeat first
  | with_reducible refine q_tCons ?_
  | ((with_reducible apply q_var); (focus (exact rfl)))
  | with_reducible refine q_c ?_
  | ((with_reducible apply q_nxE); (focus (with_reducible exact rfl)))
  | with_reducible refine q_bK ?_
  | with_reducible refine q_call ?_
  | with_reducible refine q_callK ?_
  | with_reducible refine q_tNil ?_
  | with_reducible refine q_cb ?_
  | with_reducible refine q_seq ?_
  | with_reducible refine q_asg ?_
  | with_reducible refine q_gName ?_
  | with_reducible refine q_op ?_
  | with_reducible refine q_test ?_
  | with_reducible refine q_tB ?_
  | with_reducible refine q_ifS ?_
  | with_reducible refine q_ret ?_
  | ((with_reducible apply q_rtE); (focus (with_reducible exact rfl)))
  | with_reducible refine q_next ?_
  | with_reducible refine q_ifF ?_
  | with_reducible refine q_ifT ?_
  | with_reducible refine q_drop ?_
  | with_reducible refine q_and ?_
  | with_reducible refine q_or ?_
  | with_reducible refine q_andT ?_
  | with_reducible refine q_andF ?_
  | with_reducible refine q_orF ?_
  | with_reducible refine q_orT ?_
  | with_reducible refine q_andV ?_
  | with_reducible refine q_andVT ?_
  | with_reducible refine q_andVF ?_
  | with_reducible refine q_orV ?_
  | with_reducible refine q_gCons ?_
  | with_reducible refine q_gNil ?_
  | with_reducible refine q_tup ?_
  | with_reducible refine q_lst ?_
  | with_reducible refine q_not ?_
  | with_reducible refine q_notKT ?_
  | with_reducible refine q_notKF ?_
  | with_reducible refine q_I0 ?_
  | with_reducible refine q_eqI ?_
  | with_reducible refine q_neI ?_
  | ((with_reducible refine q_I ?_ ?_); first | decide | omega | exact ⟨by omega, by omega⟩ | exact ⟨by decide, by decide⟩ | exact .inl ⟨by omega, by omega⟩ | exact .inr ⟨by omega, by omega⟩ | exact .inr ⟨by decide, by decide⟩)
  | with_reducible refine q_eqS ?_
  | with_reducible refine q_neS ?_
  | with_reducible refine q_brk ?_
  | with_reducible refine q_ct ?_
  | ((with_reducible apply q_bkE); (focus (with_reducible exact rfl)))
  | ((with_reducible apply q_cnE); (focus (with_reducible exact rfl)))
  | with_reducible refine q_retN ?_
  | with_reducible refine q_gSub ?_
  | with_reducible refine q_for ?_
  | with_reducible refine q_iList ?_
  | with_reducible refine q_iTup ?_
  | with_reducible refine q_iRng1 ?_
  | with_reducible refine q_notK ?_
  | with_reducible refine q_orVT ?_
  | with_reducible refine q_orVF ?_
  | with_reducible refine q_notV ?_
  | with_reducible refine q_notVK ?_
  | with_reducible refine q_ifE ?_
  | with_reducible refine q_ifET ?_
  | with_reducible refine q_ifEF ?_
  | with_reducible refine q_yes ?_
  | with_reducible refine q_un ?_
  | with_reducible refine q_rU ?_
  | with_reducible refine q_abs ?_
  | with_reducible refine q_int1 ?_
  | with_reducible refine q_bm ?_
  | with_reducible refine q_bm0 ?_
  | with_reducible refine q_lc ?_
  | with_reducible refine q_keepT ?_
  | with_reducible refine q_keepF ?_
  | ((with_reducible apply q_aug); (focus (exact rfl)))
  | with_reducible refine q_ipI ?_
  | with_reducible refine q_chain ?_
  | with_reducible refine q_pairC ?_
  | with_reducible refine q_pairsK ?_
  | with_reducible refine q_pairN ?_
  | with_reducible refine q_fld ?_
  | with_reducible refine q_sFld ?_
  | with_reducible refine q_meth ?_
  | with_reducible refine q_makeK ?_
  | with_reducible refine q_isBl ?_
  | with_reducible refine q_notBl ?_
  | with_reducible refine q_sl ?_
  | with_reducible refine q_noPart ?_
  | with_reducible refine q_part ?_
  | with_reducible refine q_partK ?_
  | ((with_reducible apply q_mulStr); (focus (decide +kernel)))
  | with_reducible refine q_chT ?_
  | with_reducible refine q_chF ?_
  | with_reducible refine q_ord ?_
  | with_reducible refine q_iStr0 ?_
  | with_reducible refine q_iStr ?_
  | with_reducible refine q_tDIn ?_
  | with_reducible refine q_tDNotIn ?_
  | with_reducible refine q_tDGet ?_
  | with_reducible refine q_tDGet2 ?_
  | with_reducible refine q_tDGet1 ?_
  | with_reducible refine q_tDSetd ?_
  | ((with_reducible apply q_dG2a); (focus ((repeat first | (with_reducible exact upd_same) | (with_reducible assumption) | (with_reducible apply upd_new (by assumption)) | (with_reducible apply upd_other (by first | assumption | exact Ne.symm (by assumption))) | (with_reducible refine' Kp.get (by assumption) ?_ (by first | assumption | exact Ne.symm (by assumption))) | (with_reducible apply Same.get (by assumption))); done)))
  | ((with_reducible apply q_dSda); (focus ((repeat first | (with_reducible exact upd_same) | (with_reducible assumption) | (with_reducible apply upd_new (by assumption)) | (with_reducible apply upd_other (by first | assumption | exact Ne.symm (by assumption))) | (with_reducible refine' Kp.get (by assumption) ?_ (by first | assumption | exact Ne.symm (by assumption))) | (with_reducible apply Same.get (by assumption))); done)))
  | with_reducible refine q_sDPut ?_
  | ((with_reducible apply q_dInS); (focus ((repeat first | (with_reducible exact upd_same) | (with_reducible assumption) | (with_reducible apply upd_new (by assumption)) | (with_reducible apply upd_other (by first | assumption | exact Ne.symm (by assumption))) | (with_reducible refine' Kp.get (by assumption) ?_ (by first | assumption | exact Ne.symm (by assumption))) | (with_reducible apply Same.get (by assumption))); done)))
  | ((with_reducible apply q_dNInS); (focus ((repeat first | (with_reducible exact upd_same) | (with_reducible assumption) | (with_reducible apply upd_new (by assumption)) | (with_reducible apply upd_other (by first | assumption | exact Ne.symm (by assumption))) | (with_reducible refine' Kp.get (by assumption) ?_ (by first | assumption | exact Ne.symm (by assumption))) | (with_reducible apply Same.get (by assumption))); done)))
  | ((with_reducible apply q_dInI); (focus ((repeat first | (with_reducible exact upd_same) | (with_reducible assumption) | (with_reducible apply upd_new (by assumption)) | (with_reducible apply upd_other (by first | assumption | exact Ne.symm (by assumption))) | (with_reducible refine' Kp.get (by assumption) ?_ (by first | assumption | exact Ne.symm (by assumption))) | (with_reducible apply Same.get (by assumption))); done)))
  | ((with_reducible apply q_dNInI); (focus ((repeat first | (with_reducible exact upd_same) | (with_reducible assumption) | (with_reducible apply upd_new (by assumption)) | (with_reducible apply upd_other (by first | assumption | exact Ne.symm (by assumption))) | (with_reducible refine' Kp.get (by assumption) ?_ (by first | assumption | exact Ne.symm (by assumption))) | (with_reducible apply Same.get (by assumption))); done)))
  | ((with_reducible apply q_bmL); (focus ((repeat first | (with_reducible exact upd_same) | (with_reducible assumption) | (with_reducible apply upd_new (by assumption)) | (with_reducible apply upd_other (by first | assumption | exact Ne.symm (by assumption))) | (with_reducible refine' Kp.get (by assumption) ?_ (by first | assumption | exact Ne.symm (by assumption))) | (with_reducible apply Same.get (by assumption))); done)))
  | ((with_reducible apply q_bmL0); (focus ((repeat first | (with_reducible exact upd_same) | (with_reducible assumption) | (with_reducible apply upd_new (by assumption)) | (with_reducible apply upd_other (by first | assumption | exact Ne.symm (by assumption))) | (with_reducible refine' Kp.get (by assumption) ?_ (by first | assumption | exact Ne.symm (by assumption))) | (with_reducible apply Same.get (by assumption))); done)))
  | ((with_reducible apply q_ixLt); (focus ((repeat first | (with_reducible exact upd_same) | (with_reducible assumption) | (with_reducible apply upd_new (by assumption)) | (with_reducible apply upd_other (by first | assumption | exact Ne.symm (by assumption))) | (with_reducible refine' Kp.get (by assumption) ?_ (by first | assumption | exact Ne.symm (by assumption))) | (with_reducible apply Same.get (by assumption))); done)); (focus (exact rfl)))
  | ((with_reducible apply q_ixTt); (focus ((repeat first | (with_reducible exact upd_same) | (with_reducible assumption) | (with_reducible apply upd_new (by assumption)) | (with_reducible apply upd_other (by first | assumption | exact Ne.symm (by assumption))) | (with_reducible refine' Kp.get (by assumption) ?_ (by first | assumption | exact Ne.symm (by assumption))) | (with_reducible apply Same.get (by assumption))); done)); (focus (exact rfl)))
  | ((with_reducible apply q_lenLt); (focus ((repeat first | (with_reducible exact upd_same) | (with_reducible assumption) | (with_reducible apply upd_new (by assumption)) | (with_reducible apply upd_other (by first | assumption | exact Ne.symm (by assumption))) | (with_reducible refine' Kp.get (by assumption) ?_ (by first | assumption | exact Ne.symm (by assumption))) | (with_reducible apply Same.get (by assumption))); done)))
  | ((with_reducible apply q_lenTt); (focus ((repeat first | (with_reducible exact upd_same) | (with_reducible assumption) | (with_reducible apply upd_new (by assumption)) | (with_reducible apply upd_other (by first | assumption | exact Ne.symm (by assumption))) | (with_reducible refine' Kp.get (by assumption) ?_ (by first | assumption | exact Ne.symm (by assumption))) | (with_reducible apply Same.get (by assumption))); done)))
  | ((with_reducible apply q_append); (focus ((repeat first | (with_reducible exact upd_same) | (with_reducible assumption) | (with_reducible apply upd_new (by assumption)) | (with_reducible apply upd_other (by first | assumption | exact Ne.symm (by assumption))) | (with_reducible refine' Kp.get (by assumption) ?_ (by first | assumption | exact Ne.symm (by assumption))) | (with_reducible apply Same.get (by assumption))); done)); (focus ((first | (exact Nat.lt_of_ble_eq_true rfl) | (simp only [List.length_append, List.length_cons, List.length_nil, List.length_map]; exact small1000 (by omega))))))
  | ((with_reducible apply q_setL); (focus ((repeat first | (with_reducible exact upd_same) | (with_reducible assumption) | (with_reducible apply upd_new (by assumption)) | (with_reducible apply upd_other (by first | assumption | exact Ne.symm (by assumption))) | (with_reducible refine' Kp.get (by assumption) ?_ (by first | assumption | exact Ne.symm (by assumption))) | (with_reducible apply Same.get (by assumption))); done)); (focus (exact rfl)))
  | with_reducible refine q_ifNT ?_
  | with_reducible refine q_ifNF ?_
  | with_reducible refine q_andNT ?_
  | with_reducible refine q_andNF ?_
  | with_reducible refine q_orNT ?_
  | with_reducible refine q_orNF ?_
  | with_reducible refine q_bKNT ?_
  | with_reducible refine q_bKNF ?_
  | with_reducible refine q_tNGet ?_
  | with_reducible refine q_tNIn ?_
  | with_reducible refine q_sNPut ?_
  | with_reducible refine q_sFldAug ?_
  | with_reducible refine q_sDAug ?_
  | with_reducible refine q_sDDel ?_
  | with_reducible refine q_forX ?_
  | with_reducible refine q_tMake ?_
  | ((with_reducible apply q_dG1a); (focus ((repeat first | (with_reducible exact upd_same) | (with_reducible assumption) | (with_reducible apply upd_new (by assumption)) | (with_reducible apply upd_other (by first | assumption | exact Ne.symm (by assumption))) | (with_reducible refine' Kp.get (by assumption) ?_ (by first | assumption | exact Ne.symm (by assumption))) | (with_reducible apply Same.get (by assumption))); done)))))
/-! letters as keys and as data -/
mutual
theorem NV.tdp {K : PySem.W.Frag} {H : Hp} : ∀ {k : NestedKey} {v : V}, NV H k v → TupDp K H v k.data
  | _, _, .non => by simp only [NestedKey.data]; exact .non
  | _, _, .int i => by simp only [NestedKey.data]; exact .int i
  | _, _, .str x => by simp only [NestedKey.data]; exact .str x
  | _, _, .tup h hs => by simp only [NestedKey.data]; exact .tup h (NVs.tdps hs)
theorem NVs.tdps {K : PySem.W.Frag} {H : Hp} : ∀ {ks : List NestedKey} {vs : List V}, NVs H ks vs → TupAll K H vs (NestedKey.datas ks)
  | _, _, .nil => by simp only [NestedKey.datas]; exact .nil
  | _, _, .cons a b => by simp only [NestedKey.datas]; exact .cons (NV.tdp a) (NVs.tdps b)
end
mutual
theorem key_eqv : ∀ a b : NestedKey, PyData.eqv a.data b.data = NestedKey.beq a b
  | .none, .none => by simp [NestedKey.data, NestedKey.beq, PyData.eqv]
  | .num a, .num b => by simp only [NestedKey.data, NestedKey.beq, PyData.eqv]; exact Bool.eq_iff_iff.mpr (by simp)
  | .text a, .text b => by simp only [NestedKey.data, NestedKey.beq, PyData.eqv]; exact Bool.eq_iff_iff.mpr (by simp)
  | .tup a, .tup b => by simp only [NestedKey.data, NestedKey.beq, PyData.eqv]; exact keys_eqv a b
  | .none, .num _ => by simp [NestedKey.data, NestedKey.beq, PyData.eqv]
  | .none, .text _ => by simp [NestedKey.data, NestedKey.beq, PyData.eqv]
  | .none, .tup _ => by simp [NestedKey.data, NestedKey.beq, PyData.eqv]
  | .num _, .none => by simp [NestedKey.data, NestedKey.beq, PyData.eqv]
  | .num _, .text _ => by simp [NestedKey.data, NestedKey.beq, PyData.eqv]
  | .num _, .tup _ => by simp [NestedKey.data, NestedKey.beq, PyData.eqv]
  | .text _, .none => by simp [NestedKey.data, NestedKey.beq, PyData.eqv]
  | .text _, .num _ => by simp [NestedKey.data, NestedKey.beq, PyData.eqv]
  | .text _, .tup _ => by simp [NestedKey.data, NestedKey.beq, PyData.eqv]
  | .tup _, .none => by simp [NestedKey.data, NestedKey.beq, PyData.eqv]
  | .tup _, .num _ => by simp [NestedKey.data, NestedKey.beq, PyData.eqv]
  | .tup _, .text _ => by simp [NestedKey.data, NestedKey.beq, PyData.eqv]
theorem keys_eqv : ∀ a b : List NestedKey, PyData.eqvAll (NestedKey.datas a) (NestedKey.datas b) = NestedKey.beqAll a b
  | [], [] => by simp [NestedKey.datas, NestedKey.beqAll, PyData.eqvAll]
  | [], _ :: _ => by simp [NestedKey.datas, NestedKey.beqAll, PyData.eqvAll]
  | _ :: _, [] => by simp [NestedKey.datas, NestedKey.beqAll, PyData.eqvAll]
  | x :: xs, y :: ys => by simp only [NestedKey.datas, NestedKey.beqAll, PyData.eqvAll]; rw [key_eqv x y, keys_eqv xs ys]
end
theorem key_dec (a b : NestedKey) : PyData.eqv a.data b.data = decide (a = b) := by rw [key_eqv, NestedKey.decide_eq]
theorem lays {α : Type} (f : α → PyData) (n : Nat) : ∀ xs : List α, (∀ x ∈ xs, (f x).canLay0 = true ∧ (f x).depth ≤ n) → PyData.canLayAll0 (xs.map f) = true ∧ PyData.depthAll (xs.map f) ≤ n
  | [], _ => ⟨by simp [PyData.canLayAll0], by simp [PyData.depthAll]⟩
  | x :: r, h => by
    obtain ⟨h1, h2⟩ := lays f n r fun y hy => h y (List.mem_cons_of_mem _ hy)
    obtain ⟨h3, h4⟩ := h x List.mem_cons_self
    exact ⟨by simp [PyData.canLayAll0, h1, h3], by simp only [List.map_cons, PyData.depthAll]; omega⟩
theorem shaped_of {d : PyData} (h1 : d.canLay0 = true) (h2 : d.depth ≤ 60) : SeqAt.shaped d = true := by
  show (d.canLay0 && decide (d.depth ≤ 64)) = true
  rw [h1, Bool.true_and, decide_eq_true_eq]
  omega
theorem shaped_l {α : Type} (f : α → PyData) (n : Nat) (hn : n ≤ 50) (xs : List α) (h : ∀ x ∈ xs, (f x).canLay0 = true ∧ (f x).depth ≤ n) : SeqAt.shaped (.list (xs.map f)) = true := by
  obtain ⟨h1, h2⟩ := lays f n xs h
  exact shaped_of (by simp only [PyData.canLay0]; exact h1) (by simp only [PyData.depth]; omega)
mutual
theorem key_depth : ∀ k : NestedKey, k.data.depth = k.depth
  | .none => by simp [NestedKey.data, NestedKey.depth, PyData.depth]
  | .num _ => by simp [NestedKey.data, NestedKey.depth, PyData.depth]
  | .text _ => by simp [NestedKey.data, NestedKey.depth, PyData.depth]
  | .tup ks => by simp only [NestedKey.data, NestedKey.depth, PyData.depth]; rw [keys_depth ks]
theorem keys_depth : ∀ ks : List NestedKey, PyData.depthAll (NestedKey.datas ks) = NestedKey.depthAll ks
  | [] => by simp [NestedKey.datas, NestedKey.depthAll, PyData.depthAll]
  | k :: r => by simp only [NestedKey.datas, NestedKey.depthAll, PyData.depthAll]; rw [key_depth k, keys_depth r]
end

/-! lines -/
def lineT (t : Tre) (n : Int) : List Int := (List.range (hgt t n + 1)).map (anc t n)
theorem lineT_len (t : Tre) (n : Int) : (lineT t n).length = hgt t n + 1 := by unfold lineT; rw [List.length_map, List.length_range]
theorem lineT_at {t : Tre} {n : Int} {j : Nat} (h : j ≤ hgt t n) : (lineT t n)[j]? = some (anc t n j) := by
  unfold lineT
  rw [List.getElem?_map, List.getElem?_range (by omega)]; rfl
theorem lineT_drop {t : Tre} {n : Int} {j : Nat} (h : j ≤ hgt t n) : (lineT t n).drop j = anc t n j :: (lineT t n).drop (j + 1) := by
  have hl : j < (lineT t n).length := by rw [lineT_len]; omega
  rw [List.drop_eq_getElem_cons hl]
  congr 1
  have := lineT_at h
  rw [List.getElem?_eq_getElem hl] at this
  exact Option.some.inj this
theorem anc_pred {t : Tre} {n : Int} {j : Nat} (h : j + 1 ≤ hgt t n) : up t (anc t n (j + 1)) = anc t n j := by
  unfold anc
  rw [show hgt t n - j = (hgt t n - (j + 1)) + 1 by omega, ups_add]; rfl
theorem lineT_mem {t : Tre} {n k : Int} : k ∈ lineT t n ↔ ∃ j, j ≤ hgt t n ∧ k = anc t n j := by
  unfold lineT
  rw [List.mem_map]
  constructor
  · rintro ⟨j, a, b⟩; exact ⟨j, by have := List.mem_range.mp a; omega, b.symm⟩
  · rintro ⟨j, a, b⟩; exact ⟨j, List.mem_range.mpr (by omega), b.symm⟩
/-- a block above another one has the other's line in its own -/
theorem lineT_pre {t : Tre} (o : TOk t) {n m : Int} (i : n ∈ nums t) (h : anc t n (hgt t m) = m) (q : hgt t m ≤ hgt t n) : (lineT t n).take (lineT t m).length = lineT t m := by
  rw [lineT_len]
  refine List.ext_getElem? fun j => ?_
  rw [List.getElem?_take]
  by_cases hj : j < hgt t m + 1
  · rw [if_pos hj, lineT_at (by omega), lineT_at (by omega)]
    have := o.anc_anc i (show j ≤ hgt t m by omega)
    rw [h] at this
    rw [this]
  · rw [if_neg hj, List.getElem?_eq_none (by rw [lineT_len]; omega)]
theorem cut_any {xs : List V} (n : Nat) : cutV xs none (some (n : Int)) = xs.take n := by
  unfold cutV
  rw [HT.sIx_none, show HT.sIx xs.length xs.length (some (n : Int)) = min n xs.length from HT.sIx_nat xs.length xs.length n, List.drop_zero, Nat.sub_zero]
  by_cases h : n ≤ xs.length
  · rw [Nat.min_eq_left h]
  · rw [Nat.min_eq_right (by omega), List.take_of_length_le (Nat.le_refl _), List.take_of_length_le (by omega)]
theorem sub_len : ∀ (xs ys : List Int), xs.Nodup → (∀ x ∈ xs, x ∈ ys) → xs.length ≤ ys.length
  | [], _, _, _ => Nat.zero_le _
  | x :: xs, ys, h, s => by
    rw [List.nodup_cons] at h
    have hx := s x List.mem_cons_self
    have := sub_len xs (ys.erase x) h.2 fun z hz => (List.mem_erase_of_ne (fun e => h.1 (by rw [← e]; exact hz))).mpr (s z (List.mem_cons_of_mem _ hz))
    rw [List.length_erase_of_mem hx] at this
    have := List.length_pos_of_mem hx
    rw [List.length_cons]; omega
theorem putK_old {kvs : List (Key × V)} {k : Key} {v : V} (h : k ∈ kvs.map (·.1)) : (putK kvs k v).map (·.1) = kvs.map (·.1) := by
  unfold putK
  rw [if_pos]
  · rw [List.map_map]
    refine List.map_congr_left fun p _ => ?_
    show (if p.1 = k then (p.1, v) else p).1 = p.1
    split <;> rfl
  · rw [List.any_eq_true]
    obtain ⟨p, m, e⟩ := List.mem_map.mp h
    exact ⟨p, m, by simpa using e⟩
theorem putK_fresh {kvs : List (Key × V)} {k : Key} {v : V} (h : k ∉ kvs.map (·.1)) : (putK kvs k v).map (·.1) = kvs.map (·.1) ++ [k] := by
  unfold putK
  rw [if_neg]
  · rw [List.map_append]; rfl
  · intro q
    rw [List.any_eq_true] at q
    obtain ⟨p, m, e⟩ := q
    exact h (List.mem_map.mpr ⟨p, m, by simpa using e⟩)
theorem ints_eqv (xs : List Int) : PyData.eqv (.list (xs.map PyData.int)) (.list (xs.map PyData.int)) = true := by
  simp only [PyData.eqv]
  induction xs with
  | nil => simp [PyData.eqvAll]
  | cons x xs ih => simp only [List.map_cons, PyData.eqvAll, PyData.eqv, decide_eq_true, Bool.and_eq_true]; exact ⟨by simp, ih⟩
theorem ints_sh (xs : List Int) : SeqAt.shaped (.list (xs.map PyData.int)) = true := shaped_l PyData.int 1 (by omega) xs fun x _ => ⟨rfl, by simp [PyData.depth]⟩
theorem ints_dp {K : PySem.W.Frag} {H : Hp} : ∀ xs : List Int, DpAll K H (xs.map V.int) (xs.map PyData.int)
  | [] => .nil
  | x :: xs => .cons (.int x) (ints_dp xs)
def sp_Lline (C Cb : Addr) : Sp := fun vs H Q _ => ∃ (A : ChA) (cf nt Cs Csh : Addr) (B : BkM) (W : Addr → Prop) (n : Int), vs = [.ref A.x, .int n] ∧ ChAt C Cb Cs Csh H A cf nt B W ∧ n ∈ nums B.t ∧ B.t.length < 64 ∧ ∀ (q : Addr) (H' : Hp), H q = none → H' q = some (.lst ((lineT B.t n).map V.int)) → Same H H' → Q (.ref q) H'
/-- what lies deep below some block -/
def deepT (B : BkM) (d : Nat) (z : Int) : Prop := ∃ m ∈ nums B.t, ∃ j, j + d ≤ hgt B.t m ∧ z = anc B.t m j
def sp_Ldeep (C Cb : Addr) : Sp := fun vs H Q _ => ∃ (A : ChA) (cf nt Cs Csh : Addr) (B : BkM) (W : Addr → Prop) (d : Nat), vs = [.ref A.x, .int (d : Int)] ∧ ChAt C Cb Cs Csh H A cf nt B W ∧ B.t.length < 64 ∧ ∀ (q : Addr) (zs : List Int) (H' : Hp), H q = none → H' q = some (.lst (zs.map V.int)) → zs.length < 64 → (∀ z ∈ zs, deepT B d z) → Same H H' → Q (.ref q) H'
section
variable {P : Program} {w : World} {K : PySem.W.Frag} {mg : Str → Option Value} {base : Heap}
theorem ok_L_line (T : Txt K mg) : FnOk P w K mg base CX0 4 T.f_L_line T.d_L_line ["chain", "number"] (sp_Lline T.C_Chain T.C_Blocks) := by
  refine T.F_L_line.ok sc_L_line (fun vs H Q E h => ?_) (fun cdv A outer s H vs Q E hr h => ?_)
  · obtain ⟨A, cf, nt, Cs, Csh, B, W, n, rfl, _⟩ := h; rfl
  · obtain ⟨M, cf, nt, Cs, Csh, B, W, n, rfl, hC, hn, hl, k⟩ := h
    have hT := hC.o.t
    have hh := hT.hlt hn
    refine ⟨_, (pss_cons (ps_set (i := 2) sc_L_line.nd rfl (Or.inl rfl) (pe_lst pa_nil))
      (pss_cons (ps_for PassesOwn.never rfl (pi_range1 (by rfl) T.z_range (pa_cons pe_int pa_nil)) (pg_name (i := 3) sc_L_line.nd rfl (Or.inl rfl))
        (pss_one (ps_if (pt_cmpR op_notN (pv 1) pe_non (nomark _)) (pss_cons (ps_set (i := 2) sc_L_line.nd rfl (Or.inl rfl) (pe_op op_cat (pe_lst (pa_cons (pv 1) pa_nil)) (pv 2)))
      (pss_one (ps_set (i := 1) sc_L_line.nd rfl (Or.inl rfl) (pe_meth (pv 0) T.cl_Chain T.m_Chain_parent (ok_Chain_parent T) (hr.mono (by decide)) T.b_Chain_parent .nil pass0 (pa_cons (pv 1) pa_nil))))) pss_nil)))
      (pss_one (ps_ret (pv 2))))), ?_⟩
    (dsimp only [cxOf, Cx.nox, Cx.wish, L2.start, List.map, List.length, List.replicate, List.cons_append, List.nil_append, List.append_eq, Nat.reduceSub, Nat.reduceAdd])
    walk_at "my_rd"
    refine q_lstK (Nat.le_of_ble_eq_true rfl) fun f0 nf0 => ?_
    walk_at "my_rd"
    refine q_forR (by omega) (fun i σ H' => ∃ (f : Addr) (v3 : Option V), σ = [some (.ref M.x), some (if i ≤ hgt B.t n then .int (anc B.t n (hgt B.t n - i)) else .non), some (.ref f), v3] ∧ H f = none ∧ H' f = some (.lst (((lineT B.t n).drop (hgt B.t n + 1 - i)).map V.int)) ∧ Same H H') ⟨f0, none, ?_, nf0, ?_, Same.up (Same.refl _) nf0⟩ ?_ ?_
    · rw [if_pos (Nat.zero_le _), Nat.sub_zero, anc_self (Nat.le_refl _)]; rfl
    · rw [Nat.sub_zero, List.drop_of_length_le (by rw [lineT_len]; exact Nat.le_refl _)]; exact upd_same
    · rintro i σ H' hi ⟨f, v3, rfl, nf, hf, sm⟩
      have hC' := hC.same sm
      obtain ⟨dx, fs, h0, _, _, _, _, _, _, _, h8⟩ := hC'.ex
      walk_at "my_rd"
      refine ⟨rfl, ?_⟩
      by_cases hi2 : i ≤ hgt B.t n
      · rw [if_pos hi2]
        walk_at "my_rd"
        rw [show (!decide ((V.int (anc B.t n (hgt B.t n - i)) : V) = .non)) = true from by simp]
        walk_at "my_rd"
        refine q_lstK (Nat.le_of_ble_eq_true rfl) fun g ng => ?_
        walk_at "my_rd"
        refine ⟨g, f, _, _, rfl, rfl, upd_same, upd_new ng hf, ?_, fun q nq => ?_⟩
        · show 1 + _ ≤ sizeLine
          rw [List.length_map, List.length_drop, lineT_len]; exact Nat.le_of_lt (small1000 (by omega))
        have smg : Same H' (upd (upd H' g (.lst [.int (anc B.t n (hgt B.t n - i))])) q (.lst ([V.int (anc B.t n (hgt B.t n - i))] ++ ((lineT B.t n).drop (hgt B.t n + 1 - i)).map V.int))) := Same.up (Same.up (Same.refl _) ng) nq
        have hq : upd (upd H' g (.lst [.int (anc B.t n (hgt B.t n - i))])) q (.lst ([V.int (anc B.t n (hgt B.t n - i))] ++ ((lineT B.t n).drop (hgt B.t n + 1 - i)).map V.int)) q = some (.lst ([V.int (anc B.t n (hgt B.t n - i))] ++ ((lineT B.t n).drop (hgt B.t n + 1 - i)).map V.int)) := upd_same
        have nq0 : H q = none := Same.free sm (upd_none_back nq)
        generalize upd (upd H' g (.lst [.int (anc B.t n (hgt B.t n - i))])) q (.lst ([V.int (anc B.t n (hgt B.t n - i))] ++ ((lineT B.t n).drop (hgt B.t n + 1 - i)).map V.int)) = H2 at smg hq ⊢
        walk_at "my_rd"
        refine q_methK (smg _ _ h0) (h8 _ no_ch.2.2.2.1) fun R hR => ?_
        walk_at "my_rd"
        have hm := hT.anc_mem hn (hgt B.t n - i)
        refine hR _ _ ⟨M, cf, nt, Cs, Csh, B, W, _, rfl, hC'.same smg, hm, ?_⟩
        clear hR
        walk_at "my_rd"
        refine ⟨q, some (.int (i : Int)), ?_, nq0, ?_, Same.trans sm smg⟩
        · have e : optV ((fnd B.t (anc B.t n (hgt B.t n - i))).bind Nd.p) = (if i + 1 ≤ hgt B.t n then .int (anc B.t n (hgt B.t n - (i + 1))) else .non) := by
            by_cases h1 : i + 1 ≤ hgt B.t n
            · have ne0 : anc B.t n (hgt B.t n - i) ≠ 0 := fun z => by
                have := hT.anc_h hn (show hgt B.t n - i ≤ hgt B.t n by omega)
                rw [z, hT.hgt0] at this; omega
              rw [(hT.up_ne hm ne0).2.2, if_pos h1]
              show V.int _ = V.int _
              rw [show hgt B.t n - i = (hgt B.t n - (i + 1)) + 1 by omega, anc_pred (by omega)]
            · rw [if_neg h1, show hgt B.t n - i = 0 by omega, hT.anc_0 hn, hT.up_0.2]; rfl
          rw [e]; rfl
        · rw [hq, show hgt B.t n + 1 - (i + 1) = hgt B.t n - i by omega, lineT_drop (show hgt B.t n - i ≤ hgt B.t n by omega), show hgt B.t n - i + 1 = hgt B.t n + 1 - i by omega]; rfl
      · rw [if_neg hi2]
        walk_at "my_rd"
        rw [show (!decide ((V.non : V) = .non)) = false from by simp]
        walk_at "my_rd"
        refine ⟨f, some (.int (i : Int)), ?_, nf, ?_, sm⟩
        · rw [if_neg (show ¬ i + 1 ≤ hgt B.t n by omega)]; rfl
        · rw [hf, show hgt B.t n + 1 - i = 0 by omega, show hgt B.t n + 1 - (i + 1) = 0 by omega]
    · rintro σ H' ⟨f, v3, rfl, nf, hf, sm⟩
      walk_at "my_rd"
      refine k f H' nf ?_ sm
      rw [hf, show hgt B.t n + 1 - (Int.toNat 70) = 0 by show hgt B.t n + 1 - 70 = 0; omega, List.drop_zero]
theorem ok_L_deep (T : Txt K mg) : FnOk P w K mg base CX0 5 T.f_L_deep T.d_L_deep ["chain", "depth"] (sp_Ldeep T.C_Chain T.C_Blocks) := by
  refine T.F_L_deep.ok sc_L_deep (fun vs H Q E h => ?_) (fun cdv A outer s H vs Q E hr h => ?_)
  · obtain ⟨A, cf, nt, Cs, Csh, B, W, d, rfl, _⟩ := h; rfl
  · obtain ⟨M, cf, nt, Cs, Csh, B, W, d, rfl, hC, hl, k⟩ := h
    have hT := hC.o.t
    have hu := hu_of hr
    refine ⟨_, (pss_cons (ps_set (i := 2) sc_L_deep.nd rfl (Or.inl rfl) pe_dnewK)
      (pss_cons (ps_for PassesOwn.never rfl (pi_list (pe_meth0 (pv 0) T.cl_Chain T.m_Chain_numbers (ok_Chain_numbers T) (hr.mono (by decide)) T.b_Chain_numbers .nil pass0)) (pg_name (i := 3) sc_L_deep.nd rfl (Or.inl rfl))
        (pss_cons (ps_set (i := 4) sc_L_deep.nd rfl (Or.inl rfl) (pe_call (ok_L_line T) (hr.mono (by decide)) (by rfl) T.g_L_line T.F_L_line.kp T.b_L_line .nil pass0 (pa_cons (pv 0) (pa_cons (pv 3) pa_nil))))
      (pss_one (ps_for PassesOwn.never rfl (pi_list (pe_slice sl_list (pv 4) po_none (po_some (pe_callB (call_max2 rfl) (by rfl) T.z_max boot_max (pa_cons pe_int (pa_cons (pe_op op_sub (pe_callB cq_len (by rfl) T.z_len boot_len (pa_cons (pv 4) pa_nil)) (pv 1)) pa_nil)))))) (pg_name (i := 5) sc_L_deep.nd rfl (Or.inl rfl))
        (pss_one (ps_dput hu (pv 2) (pv 5) pe_bl rfl))))))
      (pss_one (ps_ret (pe_callB (call_sortedDI rfl) (by rfl) T.z_sorted boot_sorted (pa_cons (pv 2) pa_nil)))))), ?_⟩
    (dsimp only [cxOf, Cx.nox, Cx.wish, L2.start, List.map, List.length, List.replicate, List.cons_append, List.nil_append, List.append_eq, Nat.reduceSub, Nat.reduceAdd])
    walk_at "my_rd"
    refine q_dNew fun fd nfd => ?_
    walk_at "my_rd"
    have sm1 : Same H (upd H fd (.dK [])) := Same.up (Same.refl _) nfd
    have hfd1 : upd H fd (.dK []) fd = some (.dK []) := upd_same
    generalize upd H fd (.dK []) = H1 at sm1 hfd1 ⊢
    have hC1 := hC.same sm1
    obtain ⟨dx, fs, h0, _, _, _, _, _, _, _, h8⟩ := id hC1.ex
    refine q_methK h0 (h8 _ no_ch.2.2.1) fun R hR => ?_
    walk_at "my_rd"
    refine hR _ _ ⟨M, cf, nt, _, _, B, W, rfl, hC1, hl, fun kn ys nkn hp hs => ?_⟩
    clear hR
    have sm2 : Same H1 (upd H1 kn (.lst (ys.map V.int))) := Same.up (Same.refl _) nkn
    have hkn : upd H1 kn (.lst (ys.map V.int)) kn = some (.lst (ys.map V.int)) := upd_same
    have kfd : kn ≠ fd := (ne_of_none hfd1 nkn).symm
    have hfd2 := sm2 _ _ hfd1
    generalize upd H1 kn (.lst (ys.map V.int)) = H2 at sm2 hkn hfd2 ⊢
    have smH := Same.trans sm1 sm2
    have good : ∀ ks : List Int, ks.Nodup → (∀ z ∈ ks, deepT B d z) → ks.length ≤ 63 := fun ks h1 h2 => by
      have := sub_len ks (nums B.t) h1 fun z hz => by
        obtain ⟨m, hm, j, _, e⟩ := h2 z hz
        rw [e]; exact hT.anc_mem hm j
      unfold nums at this
      rw [List.length_map] at this
      omega
    walk_at "my_rd"
    refine q_forL (sqL hkn) (fun i σ H' => ∃ (v3 v4 v5 : Option V) (kvs : List (Key × V)) (ks : List Int), σ = [some (.ref M.x), some (.int d), some (.ref fd), v3, v4, v5] ∧ H' fd = some (.dK kvs) ∧ kvs.map (·.1) = ks.map Sum.inl ∧ ks.Nodup ∧ (∀ z ∈ ks, deepT B d z) ∧ H' kn = some (.lst (ys.map V.int)) ∧ Same H H') ⟨none, none, none, [], [], rfl, hfd2, rfl, List.nodup_nil, fun z hz => (by cases hz), hkn, smH⟩ (fun i σ H' _ ⟨_, _, _, _, _, _, _, _, _, _, z, _⟩ => sqL z) ?_ ?_
    · rintro i v σ H' hv ⟨v3, v4, v5, kvs, ks, rfl, hfd, hks, hnd, hgo, hkn', sm⟩
      rw [List.getElem?_map] at hv
      obtain ⟨n, hny, rfl⟩ := Option.map_eq_some_iff.mp hv
      have hn : n ∈ nums B.t := hp.mem_iff.mp (List.mem_of_getElem? hny)
      walk_at "my_rd"
      refine ⟨M, cf, nt, _, _, B, W, n, rfl, hC.same sm, hn, hl, fun li H3 nli hli sm3 => ?_⟩
      walk_at "my_rd"
      refine ⟨_, _, rfl, ?_⟩
      walk_at "my_rd"
      rw [List.length_map, lineT_len]
      rw [show (if ((hgt B.t n + 1 : Nat) : Int) - (d : Int) > 0 then ((hgt B.t n + 1 : Nat) : Int) - (d : Int) else 0) = ((hgt B.t n + 1 - d : Nat) : Int) by split <;> omega]
      refine q_slL (sqL hli) fun sl nsl => ?_
      rw [cut_any, ← List.map_take]
      have sm4 : Same H3 (upd H3 sl (.lst (((lineT B.t n).take (hgt B.t n + 1 - d)).map V.int))) := Same.up (Same.refl _) nsl
      have hsl : upd H3 sl (.lst (((lineT B.t n).take (hgt B.t n + 1 - d)).map V.int)) sl = some (.lst (((lineT B.t n).take (hgt B.t n + 1 - d)).map V.int)) := upd_same
      have hfd3 := sm3 _ _ hfd
      have sfd : sl ≠ fd := (ne_of_none hfd3 nsl).symm
      generalize upd H3 sl (.lst (((lineT B.t n).take (hgt B.t n + 1 - d)).map V.int)) = H4 at sm4 hsl ⊢
      have hk4 := sm4 _ _ (sm3 _ _ hkn')
      have smx : Same H H4 := Same.trans sm (Same.trans sm3 sm4)
      refine q_forL (sqL hsl) (fun j σ H' => ∃ (v3 v4 v5 : Option V) (kvs : List (Key × V)) (ks : List Int), σ = [some (.ref M.x), some (.int d), some (.ref fd), v3, v4, v5] ∧ H' fd = some (.dK kvs) ∧ kvs.map (·.1) = ks.map Sum.inl ∧ ks.Nodup ∧ (∀ z ∈ ks, deepT B d z) ∧ H' kn = some (.lst (ys.map V.int)) ∧ Same H H' ∧ H' sl = some (.lst (((lineT B.t n).take (hgt B.t n + 1 - d)).map V.int))) ⟨_, _, _, kvs, ks, rfl, sm4 _ _ hfd3, hks, hnd, hgo, hk4, smx, hsl⟩ (fun i σ H' _ ⟨_, _, _, _, _, _, _, _, _, _, _, _, z⟩ => sqL z) ?_ ?_
      · rintro j v σ H5 hv ⟨v3, v4, v5, kvs, ks, rfl, hfd5, hks, hnd, hgo, hkn5, sm5, hsl5⟩
        rw [List.getElem?_map] at hv
        obtain ⟨z, hz, rfl⟩ := Option.map_eq_some_iff.mp hv
        have hz1 := List.mem_of_getElem? hz
        have hzd : deepT B d z := by
          rw [List.getElem?_take] at hz
          split at hz
          · rename_i hj
            rw [lineT_at (by omega)] at hz
            exact ⟨n, hn, j, by omega, (Option.some.inj hz).symm⟩
          · cases hz
        have hkl : kvs.length ≤ 63 := by
          have := congrArg List.length hks
          rw [List.length_map, List.length_map] at this
          have := good ks hnd hgo
          omega
        walk_at "my_rd"
        refine q_dPutI hfd5 (small1000 (by omega)) ?_
        have kk : Kp fd H5 (upd H5 fd (.dK (putK kvs (Sum.inl z) (.bl true)))) := Kp.upd Kp.refl
        refine ⟨_, _, _, _, (if z ∈ ks then ks else ks ++ [z]), rfl, upd_same, ?_, ?_, ?_, kk _ _ hkn5 kfd, fun b o q => kk _ _ (sm5 _ _ q) (ne_of_none q nfd), kk _ _ hsl5 sfd⟩
        · by_cases m : z ∈ ks
          · rw [if_pos m, putK_old (by rw [hks]; exact List.mem_map.mpr ⟨z, m, rfl⟩), hks]
          · rw [if_neg m, putK_fresh (fun q => by rw [hks] at q; obtain ⟨y, a, b⟩ := List.mem_map.mp q; exact m (Sum.inl.inj b ▸ a)), hks, List.map_append]; rfl
        · split
          · exact hnd
          · rename_i m
            rw [List.nodup_append]
            exact ⟨hnd, by simp, fun a ha b hb e => m (by rw [← List.mem_singleton.mp hb, ← e]; exact ha)⟩
        · intro y hy
          split at hy
          · exact hgo y hy
          · rcases List.mem_append.mp hy with q | q
            · exact hgo y q
            · rw [List.mem_singleton.mp q]; exact hzd
      · rintro σ H5 ⟨v3, v4, v5, kvs, ks, rfl, hfd5, hks, hnd, hgo, hkn5, sm5, hsl5⟩
        exact ⟨_, _, _, kvs, ks, rfl, hfd5, hks, hnd, hgo, hkn5, sm5⟩
    · rintro σ H' ⟨v3, v4, v5, kvs, ks, rfl, hfd, hks, hnd, hgo, hkn', sm⟩
      walk_at "my_rd"
      have := good ks hnd hgo
      refine ⟨fd, kvs, ks, rfl, .inl hfd, hks, by omega, fun zs q hpz hsz nq => ?_⟩
      walk_at "my_rd"
      exact k q zs _ (Same.free sm nq) upd_same (by rw [hpz.length_eq]; omega) (fun z hz => hgo z (hpz.mem_iff.mp hz)) (fun b o z => upd_new nq (sm _ _ z))
end

local macro_rules | `(tactic| walk_at "my_rd") => `(tactic| (repeat first
  | with_reducible refine q_tCons ?_
  | ((with_reducible apply q_var); (focus (exact rfl)))
  | with_reducible refine q_c ?_
  | ((with_reducible apply q_nxE); (focus (with_reducible exact rfl)))
  | with_reducible refine q_bK ?_
  | with_reducible refine q_call ?_
  | with_reducible refine q_callK ?_
  | with_reducible refine q_tNil ?_
  | with_reducible refine q_cb ?_
  | with_reducible refine q_seq ?_
  | with_reducible refine q_asg ?_
  | with_reducible refine q_gName ?_
  | with_reducible refine q_op ?_
  | with_reducible refine q_test ?_
  | with_reducible refine q_tB ?_
  | with_reducible refine q_ifS ?_
  | with_reducible refine q_ret ?_
  | ((with_reducible apply q_rtE); (focus (with_reducible exact rfl)))
  | with_reducible refine q_next ?_
  | with_reducible refine q_ifF ?_
  | with_reducible refine q_ifT ?_
  | with_reducible refine q_drop ?_
  | with_reducible refine q_and ?_
  | with_reducible refine q_or ?_
  | with_reducible refine q_andT ?_
  | with_reducible refine q_andF ?_
  | with_reducible refine q_orF ?_
  | with_reducible refine q_orT ?_
  | with_reducible refine q_andV ?_
  | with_reducible refine q_andVT ?_
  | with_reducible refine q_andVF ?_
  | with_reducible refine q_orV ?_
  | with_reducible refine q_gCons ?_
  | with_reducible refine q_gNil ?_
  | with_reducible refine q_tup ?_
  | with_reducible refine q_lst ?_
  | with_reducible refine q_not ?_
  | with_reducible refine q_notKT ?_
  | with_reducible refine q_notKF ?_
  | with_reducible refine q_I0 ?_
  | with_reducible refine q_eqI ?_
  | with_reducible refine q_neI ?_
  | ((with_reducible refine q_I ?_ ?_); first | decide | omega | exact ⟨by omega, by omega⟩ | exact ⟨by decide, by decide⟩ | exact .inl ⟨by omega, by omega⟩ | exact .inr ⟨by omega, by omega⟩ | exact .inr ⟨by decide, by decide⟩)
  | with_reducible refine q_eqS ?_
  | with_reducible refine q_neS ?_
  | with_reducible refine q_brk ?_
  | with_reducible refine q_ct ?_
  | ((with_reducible apply q_bkE); (focus (with_reducible exact rfl)))
  | ((with_reducible apply q_cnE); (focus (with_reducible exact rfl)))
  | with_reducible refine q_retN ?_
  | with_reducible refine q_gSub ?_
  | with_reducible refine q_for ?_
  | with_reducible refine q_iList ?_
  | with_reducible refine q_iTup ?_
  | with_reducible refine q_iRng1 ?_
  | with_reducible refine q_notK ?_
  | with_reducible refine q_orVT ?_
  | with_reducible refine q_orVF ?_
  | with_reducible refine q_notV ?_
  | with_reducible refine q_notVK ?_
  | with_reducible refine q_ifE ?_
  | with_reducible refine q_ifET ?_
  | with_reducible refine q_ifEF ?_
  | with_reducible refine q_yes ?_
  | with_reducible refine q_un ?_
  | with_reducible refine q_rU ?_
  | with_reducible refine q_abs ?_
  | with_reducible refine q_int1 ?_
  | with_reducible refine q_bm ?_
  | with_reducible refine q_bm0 ?_
  | with_reducible refine q_lc ?_
  | with_reducible refine q_keepT ?_
  | with_reducible refine q_keepF ?_
  | ((with_reducible apply q_aug); (focus (exact rfl)))
  | with_reducible refine q_ipI ?_
  | with_reducible refine q_chain ?_
  | with_reducible refine q_pairC ?_
  | with_reducible refine q_pairsK ?_
  | with_reducible refine q_pairN ?_
  | with_reducible refine q_fld ?_
  | with_reducible refine q_sFld ?_
  | with_reducible refine q_meth ?_
  | with_reducible refine q_makeK ?_
  | with_reducible refine q_isBl ?_
  | with_reducible refine q_notBl ?_
  | with_reducible refine q_sl ?_
  | with_reducible refine q_noPart ?_
  | with_reducible refine q_part ?_
  | with_reducible refine q_partK ?_
  | ((with_reducible apply q_mulStr); (focus (decide +kernel)))
  | with_reducible refine q_chT ?_
  | with_reducible refine q_chF ?_
  | with_reducible refine q_ord ?_
  | with_reducible refine q_iStr0 ?_
  | with_reducible refine q_iStr ?_
  | with_reducible refine q_tDIn ?_
  | with_reducible refine q_tDNotIn ?_
  | with_reducible refine q_tDGet ?_
  | with_reducible refine q_tDGet2 ?_
  | with_reducible refine q_tDGet1 ?_
  | with_reducible refine q_tDSetd ?_
  | ((with_reducible apply q_dG2a); (focus ((repeat first | (with_reducible exact upd_same) | (with_reducible assumption) | (with_reducible apply upd_new (by assumption)) | (with_reducible apply upd_other (by first | assumption | exact Ne.symm (by assumption))) | (with_reducible refine' Kp.get (by assumption) ?_ (by first | assumption | exact Ne.symm (by assumption))) | (with_reducible apply Same.get (by assumption))); done)))
  | ((with_reducible apply q_dSda); (focus ((repeat first | (with_reducible exact upd_same) | (with_reducible assumption) | (with_reducible apply upd_new (by assumption)) | (with_reducible apply upd_other (by first | assumption | exact Ne.symm (by assumption))) | (with_reducible refine' Kp.get (by assumption) ?_ (by first | assumption | exact Ne.symm (by assumption))) | (with_reducible apply Same.get (by assumption))); done)))
  | with_reducible refine q_sDPut ?_
  | ((with_reducible apply q_dInS); (focus ((repeat first | (with_reducible exact upd_same) | (with_reducible assumption) | (with_reducible apply upd_new (by assumption)) | (with_reducible apply upd_other (by first | assumption | exact Ne.symm (by assumption))) | (with_reducible refine' Kp.get (by assumption) ?_ (by first | assumption | exact Ne.symm (by assumption))) | (with_reducible apply Same.get (by assumption))); done)))
  | ((with_reducible apply q_dNInS); (focus ((repeat first | (with_reducible exact upd_same) | (with_reducible assumption) | (with_reducible apply upd_new (by assumption)) | (with_reducible apply upd_other (by first | assumption | exact Ne.symm (by assumption))) | (with_reducible refine' Kp.get (by assumption) ?_ (by first | assumption | exact Ne.symm (by assumption))) | (with_reducible apply Same.get (by assumption))); done)))
  | ((with_reducible apply q_dInI); (focus ((repeat first | (with_reducible exact upd_same) | (with_reducible assumption) | (with_reducible apply upd_new (by assumption)) | (with_reducible apply upd_other (by first | assumption | exact Ne.symm (by assumption))) | (with_reducible refine' Kp.get (by assumption) ?_ (by first | assumption | exact Ne.symm (by assumption))) | (with_reducible apply Same.get (by assumption))); done)))
  | ((with_reducible apply q_dNInI); (focus ((repeat first | (with_reducible exact upd_same) | (with_reducible assumption) | (with_reducible apply upd_new (by assumption)) | (with_reducible apply upd_other (by first | assumption | exact Ne.symm (by assumption))) | (with_reducible refine' Kp.get (by assumption) ?_ (by first | assumption | exact Ne.symm (by assumption))) | (with_reducible apply Same.get (by assumption))); done)))
  | ((with_reducible apply q_bmL); (focus ((repeat first | (with_reducible exact upd_same) | (with_reducible assumption) | (with_reducible apply upd_new (by assumption)) | (with_reducible apply upd_other (by first | assumption | exact Ne.symm (by assumption))) | (with_reducible refine' Kp.get (by assumption) ?_ (by first | assumption | exact Ne.symm (by assumption))) | (with_reducible apply Same.get (by assumption))); done)))
  | ((with_reducible apply q_bmL0); (focus ((repeat first | (with_reducible exact upd_same) | (with_reducible assumption) | (with_reducible apply upd_new (by assumption)) | (with_reducible apply upd_other (by first | assumption | exact Ne.symm (by assumption))) | (with_reducible refine' Kp.get (by assumption) ?_ (by first | assumption | exact Ne.symm (by assumption))) | (with_reducible apply Same.get (by assumption))); done)))
  | ((with_reducible apply q_ixLt); (focus ((repeat first | (with_reducible exact upd_same) | (with_reducible assumption) | (with_reducible apply upd_new (by assumption)) | (with_reducible apply upd_other (by first | assumption | exact Ne.symm (by assumption))) | (with_reducible refine' Kp.get (by assumption) ?_ (by first | assumption | exact Ne.symm (by assumption))) | (with_reducible apply Same.get (by assumption))); done)); (focus (exact rfl)))
  | ((with_reducible apply q_ixTt); (focus ((repeat first | (with_reducible exact upd_same) | (with_reducible assumption) | (with_reducible apply upd_new (by assumption)) | (with_reducible apply upd_other (by first | assumption | exact Ne.symm (by assumption))) | (with_reducible refine' Kp.get (by assumption) ?_ (by first | assumption | exact Ne.symm (by assumption))) | (with_reducible apply Same.get (by assumption))); done)); (focus (exact rfl)))
  | ((with_reducible apply q_lenLt); (focus ((repeat first | (with_reducible exact upd_same) | (with_reducible assumption) | (with_reducible apply upd_new (by assumption)) | (with_reducible apply upd_other (by first | assumption | exact Ne.symm (by assumption))) | (with_reducible refine' Kp.get (by assumption) ?_ (by first | assumption | exact Ne.symm (by assumption))) | (with_reducible apply Same.get (by assumption))); done)))
  | ((with_reducible apply q_lenTt); (focus ((repeat first | (with_reducible exact upd_same) | (with_reducible assumption) | (with_reducible apply upd_new (by assumption)) | (with_reducible apply upd_other (by first | assumption | exact Ne.symm (by assumption))) | (with_reducible refine' Kp.get (by assumption) ?_ (by first | assumption | exact Ne.symm (by assumption))) | (with_reducible apply Same.get (by assumption))); done)))
  | ((with_reducible apply q_append); (focus ((repeat first | (with_reducible exact upd_same) | (with_reducible assumption) | (with_reducible apply upd_new (by assumption)) | (with_reducible apply upd_other (by first | assumption | exact Ne.symm (by assumption))) | (with_reducible refine' Kp.get (by assumption) ?_ (by first | assumption | exact Ne.symm (by assumption))) | (with_reducible apply Same.get (by assumption))); done)); (focus ((first | (exact Nat.lt_of_ble_eq_true rfl) | (simp only [List.length_append, List.length_cons, List.length_nil, List.length_map]; exact small1000 (by omega))))))
  | ((with_reducible apply q_setL); (focus ((repeat first | (with_reducible exact upd_same) | (with_reducible assumption) | (with_reducible apply upd_new (by assumption)) | (with_reducible apply upd_other (by first | assumption | exact Ne.symm (by assumption))) | (with_reducible refine' Kp.get (by assumption) ?_ (by first | assumption | exact Ne.symm (by assumption))) | (with_reducible apply Same.get (by assumption))); done)); (focus (exact rfl)))
  | with_reducible refine q_ifNT ?_
  | with_reducible refine q_ifNF ?_
  | with_reducible refine q_andNT ?_
  | with_reducible refine q_andNF ?_
  | with_reducible refine q_orNT ?_
  | with_reducible refine q_orNF ?_
  | with_reducible refine q_bKNT ?_
  | with_reducible refine q_bKNF ?_
  | with_reducible refine q_tNGet ?_
  | with_reducible refine q_tNIn ?_
  | with_reducible refine q_sNPut ?_
  | with_reducible refine q_sFldAug ?_
  | with_reducible refine q_sDAug ?_
  | with_reducible refine q_sDDel ?_
  | with_reducible refine q_forX ?_
  | with_reducible refine q_tMake ?_
  | ((with_reducible apply q_dG1a); (focus ((repeat first | (with_reducible exact upd_same) | (with_reducible assumption) | (with_reducible apply upd_new (by assumption)) | (with_reducible apply upd_other (by first | assumption | exact Ne.symm (by assumption))) | (with_reducible refine' Kp.get (by assumption) ?_ (by first | assumption | exact Ne.symm (by assumption))) | (with_reducible apply Same.get (by assumption))); done)))))
/-! what stays -/
theorem rows_ne {α : Type} {f : α → List V} {H : Hp} {a p l : Addr} {xs : List V} {rs : List α} (h : RowsAt f H xs rs) (ha : H a = some (.lst xs)) (pot : PotAt H p l) : a ≠ p := by
  rintro rfl
  obtain ⟨ns, i, c, s, h1, _⟩ := pot
  rw [ha] at h1
  injection h1 with h1
  injection h1 with h1
  subst h1
  obtain ⟨r, b, _, e, _⟩ := h.item (i := 1) rfl
  cases e
theorem PotAt.lst {H : Hp} {p l : Addr} (h : PotAt H p l) : ∃ xs, H p = some (.lst xs) := by
  obtain ⟨ns, i, c, s, h1, _⟩ := h; exact ⟨_, h1⟩
theorem PotAt.keep {H H' : Hp} {p l : Addr} (h : PotAt H p l) (k : ∀ b xs, H b = some (.lst xs) → H' b = some (.lst xs)) : PotAt H' p l := by
  obtain ⟨ns, i, c, s, h1, h2, r⟩ := h; exact ⟨ns, i, c, s, k _ _ h1, k _ _ h2, r⟩
theorem PartsAt.pot {H H' : Hp} {d : Addr} {c : Parts} {gs : Gs} {tl bl g : Addr} {tv bv gv : List V} {p l : Addr} (h : PartsAt H d c gs tl bl g tv bv gv) (pot : PotAt H p l) (k : Kp p H H') : PartsAt H' d c gs tl bl g tv bv gv := by
  obtain ⟨xs, hx⟩ := pot.lst
  exact ⟨k.get h.dict (ne_of h.dict hx (by intro z; cases z)), k.get h.tl (rows_ne h.tr h.tl pot), h.tr.pot pot k, k.get h.bl (rows_ne h.br h.bl pot), h.br.pot pot k, k.tup pot h.gt, h.gp.kp pot k⟩
theorem CfgAt.pot {C : Addr} {c : Parts} {g : Addr} {H H' : Hp} {x p l : Addr} (h : CfgAt C c g H x) (pot : PotAt H p l) (k : Kp p H H') : CfgAt C c g H' x := by
  obtain ⟨xs, hx⟩ := pot.lst
  obtain ⟨dx, fs, td, bl, kvs, bv, h1, h2, h3, h4, h5, h6, h7, h8, h9, h10, h11, h12, h13⟩ := h.ex
  exact ⟨dx, fs, td, bl, kvs, bv, k.get h1 (ne_of h1 hx (by intro z; cases z)), h2, h3, h4, h5, h6, h7, h8, h9, k.get h10 (ne_of h10 hx (by intro z; cases z)), h11.mono fun b ys q => k.tup pot q, k.get h12 (rows_ne h13 h12 pot), h13.pot pot k⟩

/-! the law of final blocks -/
def spLaw (K : PySem.W.Frag) : Sp := fun vs H Q _ => ∃ (a : Addr) (ns : List Int), vs = [.ref a] ∧ SqL K H a (ns.map V.int) ∧ ns.length ≤ 63 ∧ ∀ H', Q (.bl true) H'
theorem in_ints {n : Int} {ys : List Int} : inV (.int n) (ys.map V.int) = decide (n ∈ ys) := by
  unfold inV
  rw [List.any_map, Bool.eq_iff_iff, List.any_eq_true, decide_eq_true_eq]
  constructor
  · rintro ⟨y, m, e⟩
    have e2 : (y == n) = true := e
    rw [← eq_of_beq e2]; exact m
  · intro m
    exact ⟨n, m, by show (n == n) = true; simp⟩
theorem flat_ints (ys : List Int) : (ys.map V.int).all flatV = true := by
  rw [List.all_map, List.all_eq_true]; intro y _; rfl
theorem any_false (n : Nat) : (List.replicate n false).any id = false := by
  induction n with
  | zero => rfl
  | succ n ih => rw [List.replicate_succ, List.any_cons, ih]; rfl
theorem live_le {B : BkM} (o : BOk B) {n : Int} (i : n ∈ nums B.t) (l : B.live n) : hgt B.t B.fin ≤ hgt B.t n := by
  unfold BkM.live at l
  have := (o.t.ups_mem (hgt B.t n - hgt B.t B.fin) i).2
  unfold anc at l
  rw [l] at this; omega
theorem deep_in {B : BkM} (o : BOk B) {z : Int} (h : deepT B B.dep z) : z ∈ lineT B.t B.fin := by
  obtain ⟨m, hm, j, hj, rfl⟩ := h
  have h1 := o.f1 m hm
  have h2 := o.f2 m hm (by omega)
  refine lineT_mem.mpr ⟨j, by omega, ?_⟩
  have e1 := o.t.anc_anc hm (show j ≤ hgt B.t m - B.dep by omega)
  have e2 := o.t.anc_anc o.f (show j ≤ hgt B.t m - B.dep by omega)
  rw [← e1, h2, e2]
theorem add_pre {B : BkM} (o : BOk B) {n m : Int} (i : n ∉ nums B.t) (j : m ∈ nums B.t) (l : B.live m) : (lineT (B.add n m).t (B.add n m).fin).take (lineT B.t B.fin).length = lineT B.t B.fin := by
  obtain ⟨u1, u2, u3, _⟩ := o.fin_up i j l
  have ot := (o.add i j l).t
  have hf : hgt (B.add n m).t B.fin = hgt B.t B.fin := hgt_old o.f
  have hl : lineT (B.add n m).t B.fin = lineT B.t B.fin := by
    unfold lineT
    rw [hf]
    refine List.map_congr_left fun k _ => ?_
    exact o.t.anc_old o.f
  rw [← hl]
  exact lineT_pre ot u1 (by rw [hf]; exact u3) (by rw [hf]; exact u2)
structure LI05 (C Cb Cs Csh : Addr) (H0 : Hp) (p l cf nt : Addr) (A : ChA) (d : Nat) (B : BkM) (xs : List Int) (bf : Addr) (H : Hp) : Prop where
  p0 : ∃ o, H0 p = some o
  pot : PotAt H p l
  kp : Kp p H0 H
  ch : ChAt C Cb Cs Csh H A cf nt B (fun b => H0 b = none)
  dep : B.dep = d
  lst : H bf = some (.lst (xs.map V.int))
  nb : bf ≠ p
  pre : (lineT B.t B.fin).take xs.length = xs
section
variable {C Cb Cs Csh : Addr} {H0 H H' : Hp} {p l cf nt : Addr} {A : ChA} {d : Nat} {B B' : BkM} {xs : List Int} {bf : Addr}
theorem LI05.same (h : LI05 C Cb Cs Csh H0 p l cf nt A d B xs bf H) (e : Same H H') : LI05 C Cb Cs Csh H0 p l cf nt A d B xs bf H' :=
  ⟨h.p0, h.pot.same e, Kp.trans h.kp (Same.kp e), h.ch.same e, h.dep, e _ _ h.lst, h.nb, h.pre⟩
theorem LI05.next (h : LI05 C Cb Cs Csh H0 p l cf nt A d B xs bf H) (k : Kp p H H') (pot : PotAt H' p l) : LI05 C Cb Cs Csh H0 p l cf nt A d B xs bf H' :=
  ⟨h.p0, pot, Kp.trans h.kp k, h.ch.keep fun b w o q => k b o q (fun e => by obtain ⟨z, hz⟩ := h.p0; rw [e, hz] at w; cases w), h.dep, k _ _ h.lst h.nb, h.nb, h.pre⟩
theorem LI05.none0 (h : LI05 C Cb Cs Csh H0 p l cf nt A d B xs bf H) {b : Addr} (q : H b = none) : H0 b = none := by
  cases e : H0 b with
  | none => rfl
  | some o =>
    obtain ⟨ys, hy⟩ := h.pot.lst
    rw [h.kp b o e (fun z => by rw [z, hy] at q; cases q)] at q
    cases q
theorem LI05.off (h : LI05 C Cb Cs Csh H0 p l cf nt A d B xs bf H) {a : Addr} (ha : H0 a = none) : a ≠ p := fun e => by
  obtain ⟨z, hz⟩ := h.p0; rw [e, hz] at ha; cases ha
theorem LI05.add (h : LI05 C Cb Cs Csh H0 p l cf nt A d B xs bf H) (hc : ChAt C Cb Cs Csh H' A cf nt B' (fun b => H0 b = none)) (kf : Kf A H H') (hd : B'.dep = B.dep) (pr : (lineT B'.t B'.fin).take xs.length = xs) : LI05 C Cb Cs Csh H0 p l cf nt A d B' xs bf H' := by
  have ls : ∀ b ys, H b = some (HO.lst ys) → H' b = some (.lst ys) := fun b ys q => kf b _ q (h.ch.notF (.inr (.inr ⟨_, q⟩)))
  exact ⟨h.p0, h.pot.keep ls, fun b o q n => kf b o (h.kp b o q n) fun m => (by have z := h.ch.w b (.inr m); have z : H0 b = none := z; rw [q] at z; cases z), hc, hd.trans h.dep, ls _ _ h.lst, h.nb, pr⟩
theorem LI05.new (h : LI05 C Cb Cs Csh H0 p l cf nt A d B xs bf H) {nw : Addr} (hn : H nw = some (.lst ((lineT B.t B.fin).map V.int))) (n : nw ≠ p) : LI05 C Cb Cs Csh H0 p l cf nt A d B (lineT B.t B.fin) nw H :=
  ⟨h.p0, h.pot, h.kp, h.ch, h.dep, hn, n, List.take_of_length_le (Nat.le_refl _)⟩
theorem LI05.bef (h : LI05 C Cb Cs Csh H0 p l cf nt A d B xs bf H) {nw : Addr} (hn : H nw = some (.lst (xs.map V.int))) (n : nw ≠ p) : LI05 C Cb Cs Csh H0 p l cf nt A d B xs nw H :=
  ⟨h.p0, h.pot, h.kp, h.ch, h.dep, hn, n, h.pre⟩
end
section
variable {P : Program} {w : World} {K : PySem.W.Frag} {mg : Str → Option Value} {base : Heap}
set_option maxHeartbeats 0 in
theorem ok_law (T : Txt K mg) : FnOk P w K mg base CX0 11 T.f_law T.d_law ["script"] (spLaw K) := by
  refine T.F_law.ok sc_law (fun vs H Q E h => ?_) (fun cdv A outer s H vs Q E hr h => ?_)
  · obtain ⟨a, ns, rfl, _⟩ := h; rfl
  · obtain ⟨a0, ns0, rfl, hS, hlen, k⟩ := h
    have hu := hu_of hr
    refine ⟨_, (pss_cons (ps_set (i := 1) sc_law.nd rfl (Or.inl rfl) (pe_call (ok_L_pot T) (hr.mono (by decide)) (by rfl) T.g_L_pot T.F_L_pot.kp T.b_L_pot .nil pass0 (pa_cons (pv 0) pa_nil)))
      (pss_cons (ps_set (i := 2) sc_law.nd rfl (Or.inl rfl) (pe_call (ok_L_config T) (hr.mono (by decide)) (by rfl) T.g_L_config T.F_L_config.kp T.b_L_config .nil pass0 (pa_cons (pv 1) pa_nil)))
      (pss_cons (ps_set (i := 3) sc_law.nd rfl (Or.inl rfl) (pe_make T.mk_Chain (ok_Chain_init T) (hr.mono (by decide)) (by rfl) T.g_Chain T.b_Chain_init .nil pass0 (pa_cons pe_str (pa_cons (pe_call (ok_L_made T) (hr.mono (by decide)) (by rfl) T.g_L_made T.F_L_made.kp T.b_L_made .nil pass0 (pa_cons (pv 2) pa_nil)) (pa_cons (pe_make0 T.mk_Notary (ok_Notary_init T) (hr.mono (by decide)) (by rfl) T.g_Notary T.b_Notary_init .nil pass0) pa_nil)))))
      (pss_cons (ps_set (i := 4) sc_law.nd rfl (Or.inl rfl) (pe_lst (pa_cons pe_int pa_nil)))
      (pss_cons (ps_for PassesOwn.never rfl (pi_range1 (by rfl) T.z_range (pa_cons (pe_op op_add pe_int (pe_callB (call_min2 rfl) (by rfl) T.z_min boot_min (pa_cons (pe_callB cq_len (by rfl) T.z_len boot_len (pa_cons (pv 0) pa_nil)) (pa_cons pe_int pa_nil)))) pa_nil)) (pg_name (i := 5) sc_law.nd rfl (Or.inl rfl))
        (pss_cons (ps_set (i := 6) sc_law.nd rfl (Or.inl rfl) (pe_meth0 (pv 3) T.cl_Chain T.m_Chain_numbers (ok_Chain_numbers T) (hr.mono (by decide)) T.b_Chain_numbers .nil pass0))
      (pss_cons (ps_set (i := 7) sc_law.nd rfl (Or.inl rfl) (pe_ix ix_list (pv 6) (pe_op op_sub (pe_op op_sub (pe_callB cq_len (by rfl) T.z_len boot_len (pa_cons (pv 6) pa_nil)) pe_int) (pe_call (ok_L_next T) (hr.mono (by decide)) (by rfl) T.g_L_next T.F_L_next.kp T.b_L_next .nil pass0 (pa_cons (pv 1) (pa_cons (pe_callB (call_min2 rfl) (by rfl) T.z_min boot_min (pa_cons (pe_ix ix_list (pe_lst (pa_cons pe_int (pa_cons pe_int (pa_cons pe_int (pa_cons pe_int pa_nil))))) (pe_call (ok_L_next T) (hr.mono (by decide)) (by rfl) T.g_L_next T.F_L_next.kp T.b_L_next .nil pass0 (pa_cons (pv 1) (pa_cons pe_int pa_nil))) (fun _ _ => rfl)) (pa_cons (pe_callB cq_len (by rfl) T.z_len boot_len (pa_cons (pv 6) pa_nil)) pa_nil))) pa_nil)))) (fun _ _ => rfl)))
      (Evl.pss_cut (ps_try_only rfl rfl ⟨rfl, by decide, .inl T.g_BridgeError⟩ takes0 (fun W pn xe tk _ => (pss_one (ps_expr (pe_methA (pv 3) T.cl_Chain T.m_Chain_add (ok_Chain_add (P := P) (w := w) T) (hr.mono (by decide)) T.b_Chain_add (fun σ => passAt tk σ) (pa_cons (pe_op op_add pe_int (pv 5)) (pa_cons (pv 7) (pa_cons (pe_tup pa_nil) pa_nil)))))))
      (fun a oe cls d pn hz hf => (pss_cls (C := T.C_ConflictsWithFinal) hz fun hz => (pss_one (ps_set (i := 4) sc_law.nd rfl (Or.inl rfl) (pe_op op_cat (pv 4) (pe_lst pa_nil)))))))
      (pss_cons (ps_set (i := 8) sc_law.nd rfl (Or.inr rfl) (pe_call (ok_L_line T) (hr.mono (by decide)) (by rfl) T.g_L_line T.F_L_line.kp T.b_L_line .nil pass0 (pa_cons (pv 3) (pa_cons (pe_meth0 (pv 3) T.cl_Chain T.m_Chain_final (ok_Chain_final T) (hr.mono (by decide)) T.b_Chain_final .nil pass0) pa_nil))))
      (pss_cons (ps_if (pt_cmpR (op_neD hr.units) (pe_slice sl_list (pv 8) po_none (po_some (pe_callB cq_len (by rfl) T.z_len boot_len (pa_cons (pv 4) pa_nil)))) (pv 4) (nomark _)) (pss_one (ps_ret pe_bl)) pss_nil)
      (pss_cons (ps_for PassesOwn.never rfl (pi_list (pe_meth0 (pv 3) T.cl_Chain T.m_Chain_tips (ok_Chain_tips T) (hr.mono (by decide)) T.b_Chain_tips .nil pass0)) (pg_name (i := 9) sc_law.nd rfl (Or.inl rfl))
        (pss_one (ps_if (pt_cmpR (op_neD hr.units) (pe_slice sl_list (pe_call (ok_L_line T) (hr.mono (by decide)) (by rfl) T.g_L_line T.F_L_line.kp T.b_L_line .nil pass0 (pa_cons (pv 3) (pa_cons (pv 9) pa_nil))) po_none (po_some (pe_callB cq_len (by rfl) T.z_len boot_len (pa_cons (pv 8) pa_nil)))) (pv 8) (nomark _)) (pss_one (ps_ret pe_bl)) pss_nil)))
      (pss_cons (ps_if (pt_val (pe_callB (cr_any rfl) (by rfl) T.z_any boot_any (pa_cons (pe_lc (own := [("number", 10)]) (g := (gName 10)) (tt := tYes) (te := (tOp (rIn K true) (tVar 10) (tVar 8))) rfl sc_law.nd (pi_list (pe_call (ok_L_deep T) (hr.mono (by decide)) (by rfl) T.g_L_deep T.F_L_deep.kp T.b_L_deep .nil pass0 (pa_cons (pv 3) (pa_cons (pe_dget hu (pv 2) pe_str (fun _ _ => rfl)) pa_nil)))) (blkOk_by (own := [("number", 10)]) (N := ["script", "pot", "parts", "chain", "before", "k", "known", "parent", "now", "tip", "number"]) (sc := defScope s_law) (by decide +kernel)) (fun _ _ _ _ _ => (pg_name (i := 10) sc_law.nd rfl (Or.inl rfl))) (fun _ _ _ _ _ => pts_nil) (fun _ _ _ _ _ => (pe_cmpR op_notIn_seq (pv 10) (pv 8) (by rfl)))) pa_nil))) (pss_one (ps_ret pe_bl)) pss_nil)
      (pss_one (ps_set (i := 4) sc_law.nd rfl (Or.inl rfl) (pv 8)))))))))))
      (pss_one (ps_ret pe_bl))))))), ?_⟩
    (dsimp only [cxOf, Cx.nox, Cx.wish, L2.start, List.map, List.length, List.replicate, List.cons_append, List.nil_append, List.append_eq, Nat.reduceSub, Nat.reduceAdd])
    walk_at "my_rd"
    refine ⟨a0, ns0, rfl, hS, hlen, fun p l H1 np nl pot1 sm1 => ?_⟩
    walk_at "my_rd"
    refine ⟨p, l, rfl, pot1, fun d c gs tl bl g tv bv gv H2 nd ntl nbl hp2 hc pot2 kp2 => ?_⟩
    walk_at "my_rd"
    refine ⟨d, c, gs, tl, bl, g, tv, bv, gv, rfl, hp2, hc, fun cf H3 ncf hC3 sm3 => ?_⟩
    have pot3 := pot2.same sm3
    have hp3 := hp2.same sm3
    have sm03 : Same H H3 := fun b o q => sm3 _ _ (kp2 _ _ (sm1 _ _ q) (ne_of_none q np))
    clear sm1 kp2 sm3 hp2 pot1 pot2
    walk_at "my_rd"
    intro nt dn nnt ndn hnen
    have smN : Same H3 (upd (upd H3 dn (.own nt)) nt (.ins T.C_Notary dn [])) := Same.up (Same.up (Same.refl _) ndn) (upd_free hnen.symm nnt)
    refine ⟨nt, dn, rfl, upd_same, fun H4 kp4 _ => ⟨rfl, ?_⟩⟩
    have sm4 : Same H3 H4 := fun b o q => kp4 b o (smN _ _ q) (ne_of_none q nnt)
    have hC4 := hC3.same sm4
    have pot4 := pot3.same sm4
    have hp4 := hp3.same sm4
    have sm04 := Same.trans sm03 sm4
    clear smN kp4 nnt ndn hnen sm03 sm4 pot3 hp3 hC3
    walk_at "my_rd"
    intro x dx nx ndx hne
    have smX : Same H4 (upd (upd H4 dx (.own x)) x (.ins T.C_Chain dx [])) := Same.up (Same.up (Same.refl _) ndx) (upd_free hne.symm nx)
    have hcd := hc.ok.d
    refine ⟨x, dx, cf, nt, g, c, "east", rfl, upd_same, hC4.same smX, hc.ok, hcd, by have := hc.bl; omega, fun H5 M eM hM kp5 => ⟨rfl, ?_⟩⟩
    have sm5 : Same H4 H5 := fun b o q => kp5 b o (smX _ _ q) (ne_of_none q nx)
    have hM5 := hM.sub (W' := fun b => H4 b = none) fun b q => by
      rcases q with q | q
      · rw [q]; exact nx
      · exact Same.free smX q
    have ex0 : M.x = x := eM
    clear smX kp5 hM ndx hne eM
    walk_at "my_rd"
    refine q_lstK (Nat.le_of_ble_eq_true rfl) fun b0 nb0 => ?_
    walk_at "my_rd"
    have sm6 : Same H5 (upd H5 b0 (.lst [.int 0])) := Same.up (Same.refl _) nb0
    have hb6 : upd H5 b0 (.lst [.int 0]) b0 = some (.lst [.int 0]) := upd_same
    have b0p : b0 ≠ p := (pot4.same sm5).nep nb0
    generalize upd H5 b0 (.lst [.int 0]) = H6 at sm6 hb6 ⊢
    have I6 : LI05 T.C_Chain T.C_Blocks T.C_State T.C_Sheet H4 p l cf nt M c.depth.toNat ⟨[⟨0, none, 0⟩], [0], 0, c.depth.toNat⟩ [0] b0 H6 := by
      obtain ⟨py, hpy⟩ := pot4.lst
      exact ⟨⟨_, hpy⟩, (pot4.same sm5).same sm6, Same.kp (Same.trans sm5 sm6), hM5.same sm6, rfl, hb6, b0p, rfl⟩
    have hS6 : SqL K H6 a0 (ns0.map V.int) := by
      have s := Same.trans sm04 (Same.trans sm5 sm6)
      rcases hS with (h | ⟨o, h⟩) | h
      · exact .inl (.inl (s _ _ h))
      · exact .inl (.inr ⟨o, s _ _ h⟩)
      · exact .inr h
    clear sm04 sm5 sm6 hb6 hM5 nx hS b0p nb0
    refine q_lenL hS6 ?_
    walk_at "my_rd"
    refine ⟨_, _, rfl, ?_⟩
    walk_at "my_rd"
    rw [List.length_map]
    have hN : 0 ≤ (4 : Int) + (if (46 : Int) < (ns0.length : Int) then 46 else (ns0.length : Int)) ∧ (4 : Int) + (if (46 : Int) < (ns0.length : Int) then 46 else (ns0.length : Int)) ≤ 50 := by split <;> omega
    generalize (4 : Int) + (if (46 : Int) < (ns0.length : Int) then 46 else (ns0.length : Int)) = N at hN
    refine q_forR ⟨hN.1, by omega⟩ (fun i σ H' => ∃ (B : BkM) (bf : Addr) (v5 v6 v7 v8 v9 v10 : Option V), σ = [some (.ref a0), some (.ref p), some (.ref d), some (.ref x), some (.ref bf), v5, v6, v7, v8, v9, v10] ∧
      LI05 T.C_Chain T.C_Blocks T.C_State T.C_Sheet H4 p l cf nt M c.depth.toNat B (lineT B.t B.fin) bf H' ∧ B.t.length ≤ 1 + i ∧ ∀ q ∈ nums B.t, q ≤ i) ⟨_, b0, _, _, _, _, _, _, rfl, I6, Nat.le_refl _, fun q hq => by simp [nums] at hq; omega⟩ ?_ ?_
    · clear I6 hS6 hlen
      rintro i σ H' hi ⟨B, bf, v5, v6, v7, v8, v9, v10, rfl, I, hl, hmx⟩
      refine q_gName ?_
      refine q_bodyG fun N1 R1 B1 C1 hD1 => ?_
      obtain ⟨dz, fz, h0, _, _, _, _, _, _, _, h8⟩ := id I.ch.ex
      rw [ex0] at h0
      walk_at "my_rd"
      refine q_methK h0 (h8 _ no_ch.2.2.1) fun R hR => ?_
      walk_at "my_rd"
      refine hR _ _ ⟨M, cf, nt, _, _, B, _, by rw [ex0], I.ch, by omega, fun kn ys nkn hpm hso => ?_⟩
      clear hR h0 h8
      have sm7 : Same H' (upd H' kn (.lst (ys.map V.int))) := Same.up (Same.refl _) nkn
      have hkn : upd H' kn (.lst (ys.map V.int)) kn = some (.lst (ys.map V.int)) := upd_same
      have knp : kn ≠ p := I.pot.nep nkn
      generalize upd H' kn (.lst (ys.map V.int)) = H7 at sm7 hkn ⊢
      have I7 := I.same sm7
      clear I sm7 nkn
      have hyl : ys.length = B.t.length := by rw [hpm.length_eq]; unfold nums; rw [List.length_map]
      have hy1 : 1 ≤ ys.length := by
        have := List.length_pos_of_mem (hpm.mem_iff.mpr I7.ch.o.t.zero)
        omega
      walk_at "my_rd"
      refine q_lstK (Nat.le_of_ble_eq_true rfl) fun mn nmn => ?_
      walk_at "my_rd"
      have sm8 : Same H7 (upd H7 mn (.lst [.int 1, .int 2, .int 4, .int 9])) := Same.up (Same.refl _) nmn
      have hmn : upd H7 mn (.lst [.int 1, .int 2, .int 4, .int 9]) mn = some (.lst [.int 1, .int 2, .int 4, .int 9]) := upd_same
      have mnp : mn ≠ p := I7.pot.nep nmn
      generalize upd H7 mn (.lst [.int 1, .int 2, .int 4, .int 9]) = H8 at sm8 hmn ⊢
      have I8 := I7.same sm8
      have hkn8 := sm8 _ _ hkn
      clear I7 sm8 hkn nmn
      refine ⟨p, l, 4, rfl, I8.pot, by omega, by omega, fun r1 H9 r1a r1b pot9 kp9 => ?_⟩
      have I9 := I8.next kp9 pot9
      have hkn9 := kp9 _ _ hkn8 knp
      have hmn9 := kp9 _ _ hmn mnp
      clear I8 hkn8 hmn pot9 kp9
      obtain ⟨wd, hwd, hwm⟩ := menuI (ss := [1, 2, 4, 9]) r1a (by show r1 < 4; omega)
      have hwb : 1 ≤ wd ∧ wd ≤ 9 := by
        simp only [List.mem_cons, List.not_mem_nil, or_false] at hwm
        rcases hwm with rfl | rfl | rfl | rfl <;> omega
      walk_at "my_rd"
      refine q_ixL (sqL hmn9) hwd ?_
      walk_at "my_rd"
      refine ⟨_, _, rfl, ?_⟩
      walk_at "my_rd"
      rw [List.length_map]
      have hlim : 0 < (if ((ys.length : Nat) : Int) < wd then ((ys.length : Nat) : Int) else wd) ∧ (if ((ys.length : Nat) : Int) < wd then ((ys.length : Nat) : Int) else wd) ≤ (ys.length : Int) := by split <;> omega
      generalize (if ((ys.length : Nat) : Int) < wd then ((ys.length : Nat) : Int) else wd) = lim at hlim ⊢
      refine ⟨p, l, lim, rfl, I9.pot, hlim.1, by omega, fun r2 H10 r2a r2b pot10 kp10 => ?_⟩
      have I10 := I9.next kp10 pot10
      have hkn10 := kp10 _ _ hkn9 knp
      clear I9 hkn9 hmn9 pot10 kp10
      obtain ⟨j, hj⟩ : ∃ j : Nat, (ys.length : Int) - 1 - r2 = (j : Int) := ⟨((ys.length : Int) - 1 - r2).toNat, by rw [Int.toNat_of_nonneg (by omega)]⟩
      have hjl : j < ys.length := by omega
      walk_at "my_rd"
      refine q_ixL (sqL hkn10) (at_int (x := V.int ys[j]) hj (by rw [List.getElem?_map, List.getElem?_eq_getElem hjl]; rfl)) ?_
      have hpn : ys[j] ∈ nums B.t := hpm.mem_iff.mp (List.getElem_mem hjl)
      generalize ys[j] = pr at hpn ⊢
      clear hj hjl hpm hso hkn10 knp mnp hyl hy1 hlim hwb hwm hwd
      walk_at "my_rd"
      refine q_cut (Mid := fun σ' H' => ∃ (B : BkM) (xs : List Int) (bf : Addr) (v5 v6 v7 v8 v9 v10 : Option V), σ' = [some (.ref a0), some (.ref p), some (.ref d), some (.ref x), some (.ref bf), v5, v6, v7, v8, v9, v10] ∧
        LI05 T.C_Chain T.C_Blocks T.C_State T.C_Sheet H4 p l cf nt M c.depth.toNat B xs bf H' ∧ B.t.length ≤ 1 + (i + 1) ∧ ∀ q ∈ nums B.t, q ≤ ((i + 1 : Nat) : Int)) ?_ ?_
      · obtain ⟨dz, fz, h0, _, _, _, _, _, _, _, h8⟩ := id I10.ch.ex
        rw [ex0] at h0
        walk_at "my_rd"
        refine q_methA ?_
        walk_at "my_rd"
        refine q_methAK h0 (h8 _ no_ch.2.1) ?_
        walk_at "my_rd"
        refine q_tupK (Nat.le_of_ble_eq_true rfl) fun oa noa => ?_
        walk_at "my_rd"
        have smo : Same H10 (upd H10 oa (.tup [])) := Same.up (Same.refl _) noa
        have hoa : upd H10 oa (.tup []) oa = some (.tup []) := upd_same
        have woa := I10.none0 noa
        generalize upd H10 oa (.tup []) = H11 at smo hoa ⊢
        have I11 := I10.same smo
        clear I10 smo noa h0 h8
        have hnew : (1 + (i : Int)) ∉ nums B.t := fun q => by have := hmx _ q; omega
        refine ⟨M, cf, nt, g, oa, c, B, _, 1 + (i : Int), pr, by rw [ex0], hoa, I11.ch, hC4.pot pot4 I11.kp, hc.ok, by omega, fun b q => I11.none0 q, woa, fun q => absurd q hnew, fun _ q => absurd hpn q, fun _ _ _ H12 sm12 => ⟨true, T.ex_ConflictsWithFinal, fun _ e he => ⟨⟨rfl, rfl⟩, ?_⟩, fun q => nomatch q⟩, fun _ _ hlv H12 hch kf => ?_⟩
        · have I12 := I11.same sm12
          walk_at "my_rd"
          refine q_lstK (Nat.le_of_ble_eq_true rfl) fun em nem => ?_
          walk_at "my_rd"
          refine ⟨bf, em, _, _, rfl, rfl, upd_new nem I12.lst, upd_same, ?_, fun q nq => ?_⟩
          · rw [List.length_map, lineT_len]
            have := I12.ch.o.t.hlt I12.ch.o.f
            exact Nat.le_of_lt (small1000 (by show _ + 0 < 1000; omega))
          rw [List.append_nil]
          have smq : Same H12 (upd (upd H12 em (.lst [])) q (.lst ((lineT B.t B.fin).map V.int))) := Same.up (Same.up (Same.refl _) nem) nq
          have hq : upd (upd H12 em (.lst [])) q (.lst ((lineT B.t B.fin).map V.int)) q = some (.lst ((lineT B.t B.fin).map V.int)) := upd_same
          have qp : q ≠ p := I12.pot.nep (upd_none_back nq)
          generalize upd (upd H12 em (.lst [])) q (.lst ((lineT B.t B.fin).map V.int)) = H13 at smq hq ⊢
          walk_at "my_rd"
          exact ⟨B, _, q, _, _, _, _, _, _, rfl, (I12.same smq).bef hq qp, by omega, fun q hq => by have := hmx _ hq; omega⟩
        · walk_at "my_rd"
          refine ⟨B.add (1 + (i : Int)) pr, _, bf, _, _, _, _, _, _, rfl, I11.add hch kf rfl (add_pre I11.ch.o hnew hpn hlv), ?_, fun q hq => ?_⟩
          · show (B.t ++ [_]).length ≤ _
            rw [List.length_append]; simp; omega
          · rw [show nums (B.add (1 + (i : Int)) pr).t = nums B.t ++ [1 + (i : Int)] from nums_add _ _ _] at hq
            rcases List.mem_append.mp hq with z | z
            · have := hmx _ z; omega
            · rw [List.mem_singleton.mp z]; omega
      · clear I10 hl hmx hpn
        rintro σ' H10 ⟨B, xs, bf, v5, v6, v7, v8, v9, v10, rfl, I, hl, hmx⟩
        obtain ⟨dz, fz, h0, _, _, _, _, _, _, _, h8⟩ := id I.ch.ex
        rw [ex0] at h0
        have hfm := I.ch.o.f
        walk_at "my_rd"
        refine q_methK h0 (h8 _ no_ch.2.2.2.2.1) fun R hR => ?_
        walk_at "my_rd"
        refine hR _ _ ⟨M, cf, nt, _, _, B, _, by rw [ex0], I.ch, ?_⟩
        clear hR
        walk_at "my_rd"
        refine ⟨M, cf, nt, _, _, B, _, B.fin, by rw [ex0], I.ch, hfm, by omega, fun nw H11 nnw hnw sm11 => ?_⟩
        have nwp : nw ≠ p := I.pot.nep nnw
        have I11 := I.same sm11
        clear I nnw sm11 h0 h8
        walk_at "my_rd"
        refine q_lenL (sqL I11.lst) ?_
        walk_at "my_rd"
        rw [List.length_map]
        refine q_slL (sqL hnw) fun sl nsl => ?_
        rw [cut_any, ← List.map_take, I11.pre]
        have sm12 : Same H11 (upd H11 sl (.lst (xs.map V.int))) := Same.up (Same.refl _) nsl
        have hsl : upd H11 sl (.lst (xs.map V.int)) sl = some (.lst (xs.map V.int)) := upd_same
        generalize upd H11 sl (.lst (xs.map V.int)) = H12 at sm12 hsl ⊢
        have I12 := I11.same sm12
        have hnw12 := sm12 _ _ hnw
        clear I11 sm12 hnw nsl
        walk_at "my_rd"
        refine q_neD (d := .list (xs.map PyData.int)) (e := .list (xs.map PyData.int)) (.lst (sqL hsl) (ints_dp xs)) (.lst (sqL I12.lst) (ints_dp xs)) (ints_sh xs) (ints_sh xs) ?_
        rw [ints_eqv]
        clear hsl
        have I12 := I12.new hnw12 nwp
        walk_at "my_rd"
        obtain ⟨dz, fz, h0, _, _, _, _, _, _, _, h8⟩ := id I12.ch.ex
        rw [ex0] at h0
        refine q_methK h0 (h8 _ no_ch.2.2.2.2.2.1) fun R hR => ?_
        walk_at "my_rd"
        refine hR _ _ ⟨M, cf, nt, _, _, B, _, by rw [ex0], I12.ch, by omega, fun tq ts H13 sm13 ntq htq hpm hso => ?_⟩
        clear hR h0 h8
        have I13 := I12.same sm13
        clear I12 sm13 ntq hso hnw12
        walk_at "my_rd"
        refine q_forL (sqL htq) (fun j σ H' => ∃ (bf : Addr) (v5 v6 v7 v9 v10 : Option V), σ = [some (.ref a0), some (.ref p), some (.ref d), some (.ref x), some (.ref bf), v5, v6, v7, some (.ref nw), v9, v10] ∧
          LI05 T.C_Chain T.C_Blocks T.C_State T.C_Sheet H4 p l cf nt M c.depth.toNat B (lineT B.t B.fin) nw H' ∧ H' tq = some (.lst (ts.map V.int))) ⟨_, _, _, _, _, _, rfl, I13, htq⟩ (fun j σ H' _ ⟨_, _, _, _, _, _, _, _, z⟩ => sqL z) ?_ ?_
        · clear I13 htq
          rintro j v σ H14 hv ⟨bf, v5, v6, v7, v9, v10, rfl, I14, htq⟩
          rw [List.getElem?_map] at hv
          obtain ⟨tp, htp, rfl⟩ := Option.map_eq_some_iff.mp hv
          have hm1 := List.mem_filter.mp (hpm.mem_iff.mp (List.mem_of_getElem? htp))
          have hlv : B.live tp := of_decide_eq_true hm1.2
          have htn := I14.ch.o.tsub tp hm1.1
          refine q_gName ?_
          refine q_bodyG fun N2 R2 B2 C2 hD2 => ?_
          walk_at "my_rd"
          refine ⟨M, cf, nt, _, _, B, _, tp, by rw [ex0], I14.ch, htn, by omega, fun lt H15 nlt hlt sm15 => ?_⟩
          have I15 := I14.same sm15
          walk_at "my_rd"
          refine q_lenL (sqL I15.lst) ?_
          walk_at "my_rd"
          rw [List.length_map]
          refine q_slL (sqL hlt) fun sl nsl => ?_
          rw [cut_any, ← List.map_take, lineT_pre I15.ch.o.t htn hlv (live_le I15.ch.o htn hlv)]
          have sm16 : Same H15 (upd H15 sl (.lst ((lineT B.t B.fin).map V.int))) := Same.up (Same.refl _) nsl
          have hsl : upd H15 sl (.lst ((lineT B.t B.fin).map V.int)) sl = some (.lst ((lineT B.t B.fin).map V.int)) := upd_same
          generalize upd H15 sl (.lst ((lineT B.t B.fin).map V.int)) = H16 at sm16 hsl ⊢
          have I16 := I15.same sm16
          walk_at "my_rd"
          refine q_neD (d := .list ((lineT B.t B.fin).map PyData.int)) (e := .list ((lineT B.t B.fin).map PyData.int)) (.lst (sqL hsl) (ints_dp _)) (.lst (sqL I16.lst) (ints_dp _)) (ints_sh _) (ints_sh _) ?_
          rw [ints_eqv]
          walk_at "my_rd"
          exact hD2 _ _ ⟨_, _, _, _, _, _, rfl, I16, sm16 _ _ (sm15 _ _ htq)⟩
        · clear I13 htq hpm
          rintro σ H14 ⟨bf, v5, v6, v7, v9, v10, rfl, I14, _⟩
          have hpd : H14 d = some (.dK (partKvs tl bl g c)) := I14.kp _ _ hp4.dict (by
            obtain ⟨py, hpy⟩ := pot4.lst
            exact ne_of hp4.dict hpy (by intro z; cases z))
          walk_at "my_rd"
          refine q_dGetS hpd (v := .int c.depth) (by unfold partKvs; (repeat first | rfl | rw [valV_cons, if_pos rfl] | rw [valV_cons, if_neg (by decide +kernel)])) ?_
          walk_at "my_rd"
          refine ⟨M, cf, nt, _, _, B, _, B.dep, ?_, I14.ch, by omega, fun zq zs H15 nzq hzq hzl hzd sm15 => ?_⟩
          · rw [ex0, I14.dep, Int.toNat_of_nonneg (by omega)]
          have I15 := I14.same sm15
          clear I14 hpd sm15
          refine q_lcL (sqL hzq) fun D nD => ⟨fun j H' => Same H15 H' ∧ H' D = some (.lst ((List.replicate j false).map V.bl)), ⟨Same.new (Same.refl _) nD, upd_same⟩, fun j H' _ ⟨sm, _⟩ => sqL (sm _ _ hzq), ?_, ?_⟩
          · rintro j v H16 hv ⟨sm, hD⟩
            have hjl := (List.getElem?_eq_some_iff.mp hv).1
            rw [List.length_map] at hjl
            rw [List.getElem?_map] at hv
            obtain ⟨z, hz, rfl⟩ := Option.map_eq_some_iff.mp hv
            have hin := deep_in I15.ch.o (hzd z (List.mem_of_getElem? hz))
            walk_at "my_rd"
            refine ⟨rfl, ?_⟩
            walk_at "my_rd"
            refine q_inL' (sqL (sm _ _ I15.lst)) rfl (flat_ints _) ?_
            rw [in_ints, decide_eq_true hin]
            walk_at "my_rd"
            refine q_accK hD (by rw [List.length_map, List.length_replicate]; exact small1000 (by omega)) ⟨Same.new sm nD, ?_⟩
            rw [upd_same, List.replicate_succ', List.map_append]; rfl
          · rintro H16 ⟨sm, hD⟩
            have I16 := I15.same sm
            walk_at "my_rd"
            refine q_any (sqL hD) ?_
            rw [any_false]
            walk_at "my_rd"
            exact hD1 _ _ ⟨B, nw, _, _, _, _, _, _, rfl, I16, hl, hmx⟩
    · rintro σ H' ⟨B, bf, v5, v6, v7, v8, v9, v10, rfl, I, hl, _⟩
      walk_at "my_rd"
      exact k _
end

theorem fun_of {K : PySem.W.Frag} {x q : Str} {st : Stmt} {kws : List (Str × V)} {f : Addr} {fd : FuncData} (F : FunD K x q (defArgs st) (defBody st) (defScope st) [] kws f fd) : Fun K x q st f fd := by
  obtain ⟨⟨oc, od, dV, kV, doc, pm, an, cdv, ct, osl, rfl, lk, hcd, hD, hK⟩, kp⟩ := F
  rcases hD with ⟨_, rfl⟩ | ⟨e, _⟩
  · exact ⟨⟨oc, od, kV, doc, pm, an, cdv, ct, osl, rfl, lk, hcd⟩, kp⟩
  · exact absurd rfl e
theorem funD_0 {K : PySem.W.Frag} {x q : Str} {params : Arguments} {body : List Stmt} {scope : Scope} {dvs : List V} {kws : List (Str × V)} {f : Addr} {fd : FuncData} (F : FunD K x q params body scope dvs kws f fd) : FunD K x q params body scope dvs [] f fd := by
  obtain ⟨⟨oc, od, dV, kV, doc, pm, an, cdv, ct, osl, e, lk, hcd, hD, hK⟩, kp⟩ := F
  exact ⟨⟨oc, od, dV, kV, doc, pm, an, cdv, ct, osl, e, lk, hcd, hD, .inl rfl⟩, kp⟩
theorem kbn_of {K : PySem.W.Frag} {x q : Str} {params : Arguments} {body : List Stmt} {scope : Scope} {kws : List (Str × V)} {f : Addr} {fd : FuncData} {ps ks : List Str} {n : Nat} (F : FunD K x q params body scope [] kws f fd)
    (h : ∀ (kV doc pm : Value) (an : Option Addr) (cdv ct : Value) (us ws : List Value), us.length = n → ws.length = ks.length → bindArgs (PySem.W.fnOf x q params body scope .none kV doc pm an cdv ct) ⟨us, ks.zip ws⟩ = pure (ps.zip (us ++ ws))) : KBn K fd ps n ks (fun us ws => us ++ ws) (fun vs zs => vs ++ zs) := by
  obtain ⟨⟨oc, od, dV, kV, doc, pm, an, cdv, ct, osl, rfl, lk, hcd, hD, hK⟩, kp⟩ := F
  rcases hD with ⟨_, rfl⟩ | ⟨e, _⟩
  · exact ⟨fun s us ws X l1 l2 => .of_eq (h kV doc pm an cdv ct us ws l1 l2), fun r rz => Vals.append r rz⟩
  · exact absurd rfl e
theorem sqTK_of {K : PySem.W.Frag} {a : Addr} {xs : List V} (h : SqT K (fun _ => none) a xs) : SqTK K a xs := by
  rcases h with (h | ⟨o, h⟩) | h
  · cases h
  · cases h
  · exact h
theorem x0 (P : Params) : (fun K : PySem.W.Frag => (He.Fa.glo "is_integer").ok K) (KK P) = true := by kernel_rfl
theorem x1 (P : Params) : (fun K : PySem.W.Frag => (He.Fa.glo "is_at_least").ok K) (KK P) = true := by kernel_rfl
theorem x2 (P : Params) : (fun K : PySem.W.Frag => (He.Fa.glo "is_text").ok K) (KK P) = true := by kernel_rfl
theorem x3 (P : Params) : (fun K : PySem.W.Frag => (He.Fa.glo "is_short_text").ok K) (KK P) = true := by kernel_rfl
theorem x4 (P : Params) : (fun K : PySem.W.Frag => (He.Fa.glo "is_account").ok K) (KK P) = true := by kernel_rfl
theorem x5 (P : Params) : (fun K : PySem.W.Frag => (He.Fa.glo "is_side").ok K) (KK P) = true := by kernel_rfl
theorem x6 (P : Params) : (fun K : PySem.W.Frag => (He.Fa.glo "is_set").ok K) (KK P) = true := by kernel_rfl
theorem x7 (P : Params) : (fun K : PySem.W.Frag => (He.Fa.glo "is_pair").ok K) (KK P) = true := by kernel_rfl
theorem x8 (P : Params) : (fun K : PySem.W.Frag => (He.Fa.glo "check_list").ok K) (KK P) = true := by kernel_rfl
theorem x9 (P : Params) : (fun K : PySem.W.Frag => (He.Fa.glo "check_least").ok K) (KK P) = true := by kernel_rfl
theorem x10 (P : Params) : (fun K : PySem.W.Frag => (He.Fa.glo "check_token_row").ok K) (KK P) = true := by kernel_rfl
theorem x11 (P : Params) : (fun K : PySem.W.Frag => (He.Fa.glo "check_balance_row").ok K) (KK P) = true := by kernel_rfl
theorem x12 (P : Params) : (fun K : PySem.W.Frag => (He.Fa.glo "next_height").ok K) (KK P) = true := by kernel_rfl
theorem x13 (P : Params) : (fun K : PySem.W.Frag => (He.Fa.glo "after_block").ok K) (KK P) = true := by kernel_rfl
theorem x14 (P : Params) : (fun K : PySem.W.Frag => (He.Fa.glo "copied").ok K) (KK P) = true := by kernel_rfl
theorem x15 (P : Params) : (fun K : PySem.W.Frag => (He.Fa.glo "held").ok K) (KK P) = true := by kernel_rfl
theorem x16 (P : Params) : (fun K : PySem.W.Frag => (He.Fa.glo "put").ok K) (KK P) = true := by kernel_rfl
theorem x17 (P : Params) : (fun K : PySem.W.Frag => (He.Fa.glo "opening_state").ok K) (KK P) = true := by kernel_rfl
theorem x18 (P : Params) : (fun K : PySem.W.Frag => (He.Fa.glo "_law_pot").ok K) (KK P) = true := by kernel_rfl
theorem x19 (P : Params) : (fun K : PySem.W.Frag => (He.Fa.glo "_law_next").ok K) (KK P) = true := by kernel_rfl
theorem x20 (P : Params) : (fun K : PySem.W.Frag => (He.Fa.glo "_law_set").ok K) (KK P) = true := by kernel_rfl
theorem x21 (P : Params) : (fun K : PySem.W.Frag => (He.Fa.glo "_law_config").ok K) (KK P) = true := by kernel_rfl
theorem x22 (P : Params) : (fun K : PySem.W.Frag => (He.Fa.glo "_law_made").ok K) (KK P) = true := by kernel_rfl
theorem x23 (P : Params) : (fun K : PySem.W.Frag => (He.Fa.glo "_law_line").ok K) (KK P) = true := by kernel_rfl
theorem x24 (P : Params) : (fun K : PySem.W.Frag => (He.Fa.glo "_law_deep").ok K) (KK P) = true := by kernel_rfl
theorem x25 (P : Params) : (fun K : PySem.W.Frag => (He.Fa.glo "law").ok K) (KK P) = true := by kernel_rfl
theorem x26 (P : Params) : (fun K : PySem.W.Frag => (He.Fa.glo "Blocks").ok K) (KK P) = true := by kernel_rfl
theorem x27 (P : Params) : (fun K : PySem.W.Frag => (He.Fa.cls "Blocks").ok K) (KK P) = true := by kernel_rfl
theorem x28 (P : Params) : (fun K : PySem.W.Frag => (He.Fa.mkr "Blocks").ok K) (KK P) = true := by kernel_rfl
theorem x29 (P : Params) : (fun K : PySem.W.Frag => (He.Fa.meth "Blocks" "has").ok K) (KK P) = true := by kernel_rfl
theorem x30 (P : Params) : (fun K : PySem.W.Frag => (He.Fa.meth "Blocks" "numbers").ok K) (KK P) = true := by kernel_rfl
theorem x31 (P : Params) : (fun K : PySem.W.Frag => (He.Fa.meth "Blocks" "parent").ok K) (KK P) = true := by kernel_rfl
theorem x32 (P : Params) : (fun K : PySem.W.Frag => (He.Fa.meth "Blocks" "place").ok K) (KK P) = true := by kernel_rfl
theorem x33 (P : Params) : (fun K : PySem.W.Frag => (He.Fa.meth "Blocks" "final").ok K) (KK P) = true := by kernel_rfl
theorem x34 (P : Params) : (fun K : PySem.W.Frag => (He.Fa.meth "Blocks" "is_live").ok K) (KK P) = true := by kernel_rfl
theorem x35 (P : Params) : (fun K : PySem.W.Frag => (He.Fa.meth "Blocks" "live_tips").ok K) (KK P) = true := by kernel_rfl
theorem x36 (P : Params) : (fun K : PySem.W.Frag => (He.Fa.meth "Blocks" "_below").ok K) (KK P) = true := by kernel_rfl
theorem x37 (P : Params) : (fun K : PySem.W.Frag => (He.Fa.noat "Blocks" "_depth").ok K) (KK P) = true := by kernel_rfl
theorem x38 (P : Params) : (fun K : PySem.W.Frag => (He.Fa.noat "Blocks" "_parents").ok K) (KK P) = true := by kernel_rfl
theorem x39 (P : Params) : (fun K : PySem.W.Frag => (He.Fa.noat "Blocks" "_heights").ok K) (KK P) = true := by kernel_rfl
theorem x40 (P : Params) : (fun K : PySem.W.Frag => (He.Fa.noat "Blocks" "_tips").ok K) (KK P) = true := by kernel_rfl
theorem x41 (P : Params) : (fun K : PySem.W.Frag => (He.Fa.noat "Blocks" "_final").ok K) (KK P) = true := by kernel_rfl
theorem x42 (P : Params) : (fun K : PySem.W.Frag => (He.Fa.glo "BridgeError").ok K) (KK P) = true := by kernel_rfl
theorem x43 (P : Params) : (fun K : PySem.W.Frag => decide (PySem.W.excIn K (He.ga K "BridgeError") [.type "ValueError", .type "Exception", .type "BaseException", .type "object"] "ValueError.__new__" = true)) (KK P) = true := by kernel_rfl
theorem x44 (P : Params) : (fun K : PySem.W.Frag => decide (PySem.W.keepIn K (.ref (He.ga K "BridgeError")) = true)) (KK P) = true := by kernel_rfl
theorem x45 (P : Params) : (fun K : PySem.W.Frag => decide (PySem.W.subIn K (.ref (He.ga K "BridgeError")) (.type "BaseException") = some true)) (KK P) = true := by kernel_rfl
theorem x46 (P : Params) : (fun K : PySem.W.Frag => decide (PySem.W.typeIn K (.ref (He.ga K "BridgeError")) = some (.type "type"))) (KK P) = true := by kernel_rfl
theorem x47 (P : Params) : (fun K : PySem.W.Frag => decide (PySem.W.isClsIn K (He.ga K "BridgeError") = true)) (KK P) = true := by kernel_rfl
theorem x48 (P : Params) : (fun K : PySem.W.Frag => decide (PySem.W.subIn K (.ref (He.ga K "BridgeError")) (.ref (He.ga K "BridgeError")) = some true)) (KK P) = true := by kernel_rfl
theorem x49 (P : Params) : (fun K : PySem.W.Frag => decide (PySem.W.hasDictIn K (He.ga K "BridgeError") = true)) (KK P) = true := by kernel_rfl
theorem x50 (P : Params) : (fun K : PySem.W.Frag => (He.Fa.glo "UnknownParent").ok K) (KK P) = true := by kernel_rfl
theorem x51 (P : Params) : (fun K : PySem.W.Frag => decide (PySem.W.excIn K (He.ga K "UnknownParent") [.type "ValueError", .type "Exception", .type "BaseException", .type "object"] "ValueError.__new__" = true)) (KK P) = true := by kernel_rfl
theorem x52 (P : Params) : (fun K : PySem.W.Frag => decide (PySem.W.keepIn K (.ref (He.ga K "UnknownParent")) = true)) (KK P) = true := by kernel_rfl
theorem x53 (P : Params) : (fun K : PySem.W.Frag => decide (PySem.W.subIn K (.ref (He.ga K "UnknownParent")) (.type "BaseException") = some true)) (KK P) = true := by kernel_rfl
theorem x54 (P : Params) : (fun K : PySem.W.Frag => decide (PySem.W.typeIn K (.ref (He.ga K "UnknownParent")) = some (.type "type"))) (KK P) = true := by kernel_rfl
theorem x55 (P : Params) : (fun K : PySem.W.Frag => decide (PySem.W.isClsIn K (He.ga K "UnknownParent") = true)) (KK P) = true := by kernel_rfl
theorem x56 (P : Params) : (fun K : PySem.W.Frag => decide (PySem.W.subIn K (.ref (He.ga K "UnknownParent")) (.ref (He.ga K "UnknownParent")) = some true)) (KK P) = true := by kernel_rfl
theorem x57 (P : Params) : (fun K : PySem.W.Frag => decide (PySem.W.subIn K (.ref (He.ga K "UnknownParent")) (.ref (He.ga K "BridgeError")) = some true)) (KK P) = true := by kernel_rfl
theorem x58 (P : Params) : (fun K : PySem.W.Frag => (He.Fa.glo "DuplicateBlock").ok K) (KK P) = true := by kernel_rfl
theorem x59 (P : Params) : (fun K : PySem.W.Frag => decide (PySem.W.excIn K (He.ga K "DuplicateBlock") [.type "ValueError", .type "Exception", .type "BaseException", .type "object"] "ValueError.__new__" = true)) (KK P) = true := by kernel_rfl
theorem x60 (P : Params) : (fun K : PySem.W.Frag => decide (PySem.W.keepIn K (.ref (He.ga K "DuplicateBlock")) = true)) (KK P) = true := by kernel_rfl
theorem x61 (P : Params) : (fun K : PySem.W.Frag => decide (PySem.W.subIn K (.ref (He.ga K "DuplicateBlock")) (.type "BaseException") = some true)) (KK P) = true := by kernel_rfl
theorem x62 (P : Params) : (fun K : PySem.W.Frag => decide (PySem.W.typeIn K (.ref (He.ga K "DuplicateBlock")) = some (.type "type"))) (KK P) = true := by kernel_rfl
theorem x63 (P : Params) : (fun K : PySem.W.Frag => decide (PySem.W.isClsIn K (He.ga K "DuplicateBlock") = true)) (KK P) = true := by kernel_rfl
theorem x64 (P : Params) : (fun K : PySem.W.Frag => decide (PySem.W.subIn K (.ref (He.ga K "DuplicateBlock")) (.ref (He.ga K "DuplicateBlock")) = some true)) (KK P) = true := by kernel_rfl
theorem x65 (P : Params) : (fun K : PySem.W.Frag => decide (PySem.W.subIn K (.ref (He.ga K "DuplicateBlock")) (.ref (He.ga K "BridgeError")) = some true)) (KK P) = true := by kernel_rfl
theorem x66 (P : Params) : (fun K : PySem.W.Frag => (He.Fa.glo "ConflictsWithFinal").ok K) (KK P) = true := by kernel_rfl
theorem x67 (P : Params) : (fun K : PySem.W.Frag => decide (PySem.W.excIn K (He.ga K "ConflictsWithFinal") [.type "ValueError", .type "Exception", .type "BaseException", .type "object"] "ValueError.__new__" = true)) (KK P) = true := by kernel_rfl
theorem x68 (P : Params) : (fun K : PySem.W.Frag => decide (PySem.W.keepIn K (.ref (He.ga K "ConflictsWithFinal")) = true)) (KK P) = true := by kernel_rfl
theorem x69 (P : Params) : (fun K : PySem.W.Frag => decide (PySem.W.subIn K (.ref (He.ga K "ConflictsWithFinal")) (.type "BaseException") = some true)) (KK P) = true := by kernel_rfl
theorem x70 (P : Params) : (fun K : PySem.W.Frag => decide (PySem.W.typeIn K (.ref (He.ga K "ConflictsWithFinal")) = some (.type "type"))) (KK P) = true := by kernel_rfl
theorem x71 (P : Params) : (fun K : PySem.W.Frag => decide (PySem.W.isClsIn K (He.ga K "ConflictsWithFinal") = true)) (KK P) = true := by kernel_rfl
theorem x72 (P : Params) : (fun K : PySem.W.Frag => decide (PySem.W.subIn K (.ref (He.ga K "ConflictsWithFinal")) (.ref (He.ga K "ConflictsWithFinal")) = some true)) (KK P) = true := by kernel_rfl
theorem x73 (P : Params) : (fun K : PySem.W.Frag => decide (PySem.W.subIn K (.ref (He.ga K "ConflictsWithFinal")) (.ref (He.ga K "BridgeError")) = some true)) (KK P) = true := by kernel_rfl
theorem x74 (P : Params) : (fun K : PySem.W.Frag => (He.Fa.glo "Config").ok K) (KK P) = true := by kernel_rfl
theorem x75 (P : Params) : (fun K : PySem.W.Frag => (He.Fa.cls "Config").ok K) (KK P) = true := by kernel_rfl
theorem x76 (P : Params) : (fun K : PySem.W.Frag => (He.Fa.mkr "Config").ok K) (KK P) = true := by kernel_rfl
theorem x77 (P : Params) : (fun K : PySem.W.Frag => (He.Fa.meth "Config" "check_token").ok K) (KK P) = true := by kernel_rfl
theorem x78 (P : Params) : (fun K : PySem.W.Frag => (He.Fa.meth "Config" "home").ok K) (KK P) = true := by kernel_rfl
theorem x79 (P : Params) : (fun K : PySem.W.Frag => (He.Fa.meth "Config" "scale").ok K) (KK P) = true := by kernel_rfl
theorem x80 (P : Params) : (fun K : PySem.W.Frag => (He.Fa.meth "Config" "opening").ok K) (KK P) = true := by kernel_rfl
theorem x81 (P : Params) : (fun K : PySem.W.Frag => (He.Fa.meth "Config" "guards").ok K) (KK P) = true := by kernel_rfl
theorem x82 (P : Params) : (fun K : PySem.W.Frag => (He.Fa.meth "Config" "depth").ok K) (KK P) = true := by kernel_rfl
theorem x83 (P : Params) : (fun K : PySem.W.Frag => (He.Fa.meth "Config" "window").ok K) (KK P) = true := by kernel_rfl
theorem x84 (P : Params) : (fun K : PySem.W.Frag => (He.Fa.meth "Config" "delay").ok K) (KK P) = true := by kernel_rfl
theorem x85 (P : Params) : (fun K : PySem.W.Frag => (He.Fa.meth "Config" "bundle").ok K) (KK P) = true := by kernel_rfl
theorem x86 (P : Params) : (fun K : PySem.W.Frag => (He.Fa.noat "Config" "_tokens").ok K) (KK P) = true := by kernel_rfl
theorem x87 (P : Params) : (fun K : PySem.W.Frag => (He.Fa.noat "Config" "_balances").ok K) (KK P) = true := by kernel_rfl
theorem x88 (P : Params) : (fun K : PySem.W.Frag => (He.Fa.noat "Config" "_guards").ok K) (KK P) = true := by kernel_rfl
theorem x89 (P : Params) : (fun K : PySem.W.Frag => (He.Fa.noat "Config" "_depth").ok K) (KK P) = true := by kernel_rfl
theorem x90 (P : Params) : (fun K : PySem.W.Frag => (He.Fa.noat "Config" "_window").ok K) (KK P) = true := by kernel_rfl
theorem x91 (P : Params) : (fun K : PySem.W.Frag => (He.Fa.noat "Config" "_delay").ok K) (KK P) = true := by kernel_rfl
theorem x92 (P : Params) : (fun K : PySem.W.Frag => (He.Fa.noat "Config" "_bundle").ok K) (KK P) = true := by kernel_rfl
theorem x93 (P : Params) : (fun K : PySem.W.Frag => (He.Fa.glo "Sheet").ok K) (KK P) = true := by kernel_rfl
theorem x94 (P : Params) : (fun K : PySem.W.Frag => (He.Fa.cls "Sheet").ok K) (KK P) = true := by kernel_rfl
theorem x95 (P : Params) : (fun K : PySem.W.Frag => (He.Fa.mkr "Sheet").ok K) (KK P) = true := by kernel_rfl
theorem x96 (P : Params) : (fun K : PySem.W.Frag => (He.Fa.meth "Sheet" "copy").ok K) (KK P) = true := by kernel_rfl
theorem x97 (P : Params) : (fun K : PySem.W.Frag => (He.Fa.noat "Sheet" "_config").ok K) (KK P) = true := by kernel_rfl
theorem x98 (P : Params) : (fun K : PySem.W.Frag => (He.Fa.noat "Sheet" "_side").ok K) (KK P) = true := by kernel_rfl
theorem x99 (P : Params) : (fun K : PySem.W.Frag => (He.Fa.noat "Sheet" "_balances").ok K) (KK P) = true := by kernel_rfl
theorem x100 (P : Params) : (fun K : PySem.W.Frag => (He.Fa.noat "Sheet" "_bonds").ok K) (KK P) = true := by kernel_rfl
theorem x101 (P : Params) : (fun K : PySem.W.Frag => (He.Fa.noat "Sheet" "_vaults").ok K) (KK P) = true := by kernel_rfl
theorem x102 (P : Params) : (fun K : PySem.W.Frag => (He.Fa.glo "State").ok K) (KK P) = true := by kernel_rfl
theorem x103 (P : Params) : (fun K : PySem.W.Frag => (He.Fa.cls "State").ok K) (KK P) = true := by kernel_rfl
theorem x104 (P : Params) : (fun K : PySem.W.Frag => (He.Fa.mkr "State").ok K) (KK P) = true := by kernel_rfl
theorem x105 (P : Params) : (fun K : PySem.W.Frag => (He.Fa.meth "State" "copy").ok K) (KK P) = true := by kernel_rfl
theorem x106 (P : Params) : (fun K : PySem.W.Frag => (He.Fa.meth "State" "rise").ok K) (KK P) = true := by kernel_rfl
theorem x107 (P : Params) : (fun K : PySem.W.Frag => (He.Fa.noat "State" "_config").ok K) (KK P) = true := by kernel_rfl
theorem x108 (P : Params) : (fun K : PySem.W.Frag => (He.Fa.noat "State" "_side").ok K) (KK P) = true := by kernel_rfl
theorem x109 (P : Params) : (fun K : PySem.W.Frag => (He.Fa.noat "State" "_sheet").ok K) (KK P) = true := by kernel_rfl
theorem x110 (P : Params) : (fun K : PySem.W.Frag => (He.Fa.noat "State" "_height").ok K) (KK P) = true := by kernel_rfl
theorem x111 (P : Params) : (fun K : PySem.W.Frag => (He.Fa.noat "State" "_sets").ok K) (KK P) = true := by kernel_rfl
theorem x112 (P : Params) : (fun K : PySem.W.Frag => (He.Fa.noat "State" "_stops").ok K) (KK P) = true := by kernel_rfl
theorem x113 (P : Params) : (fun K : PySem.W.Frag => (He.Fa.noat "State" "_stopped").ok K) (KK P) = true := by kernel_rfl
theorem x114 (P : Params) : (fun K : PySem.W.Frag => (He.Fa.noat "State" "_transfers").ok K) (KK P) = true := by kernel_rfl
theorem x115 (P : Params) : (fun K : PySem.W.Frag => (He.Fa.noat "State" "_returned").ok K) (KK P) = true := by kernel_rfl
theorem x116 (P : Params) : (fun K : PySem.W.Frag => (He.Fa.noat "State" "_taken").ok K) (KK P) = true := by kernel_rfl
theorem x117 (P : Params) : (fun K : PySem.W.Frag => (He.Fa.noat "State" "_waiting").ok K) (KK P) = true := by kernel_rfl
theorem x118 (P : Params) : (fun K : PySem.W.Frag => (He.Fa.noat "State" "_deliveries").ok K) (KK P) = true := by kernel_rfl
theorem x119 (P : Params) : (fun K : PySem.W.Frag => (He.Fa.glo "Chain").ok K) (KK P) = true := by kernel_rfl
theorem x120 (P : Params) : (fun K : PySem.W.Frag => (He.Fa.cls "Chain").ok K) (KK P) = true := by kernel_rfl
theorem x121 (P : Params) : (fun K : PySem.W.Frag => (He.Fa.mkr "Chain").ok K) (KK P) = true := by kernel_rfl
theorem x122 (P : Params) : (fun K : PySem.W.Frag => (He.Fa.meth "Chain" "add").ok K) (KK P) = true := by kernel_rfl
theorem x123 (P : Params) : (fun K : PySem.W.Frag => (He.Fa.meth "Chain" "numbers").ok K) (KK P) = true := by kernel_rfl
theorem x124 (P : Params) : (fun K : PySem.W.Frag => (He.Fa.meth "Chain" "parent").ok K) (KK P) = true := by kernel_rfl
theorem x125 (P : Params) : (fun K : PySem.W.Frag => (He.Fa.meth "Chain" "final").ok K) (KK P) = true := by kernel_rfl
theorem x126 (P : Params) : (fun K : PySem.W.Frag => (He.Fa.meth "Chain" "tips").ok K) (KK P) = true := by kernel_rfl
theorem x127 (P : Params) : (fun K : PySem.W.Frag => (He.Fa.meth "Chain" "_check_block").ok K) (KK P) = true := by kernel_rfl
theorem x128 (P : Params) : (fun K : PySem.W.Frag => (He.Fa.noat "Chain" "_config").ok K) (KK P) = true := by kernel_rfl
theorem x129 (P : Params) : (fun K : PySem.W.Frag => (He.Fa.noat "Chain" "_notary").ok K) (KK P) = true := by kernel_rfl
theorem x130 (P : Params) : (fun K : PySem.W.Frag => (He.Fa.noat "Chain" "_blocks").ok K) (KK P) = true := by kernel_rfl
theorem x131 (P : Params) : (fun K : PySem.W.Frag => (He.Fa.noat "Chain" "_orders").ok K) (KK P) = true := by kernel_rfl
theorem x132 (P : Params) : (fun K : PySem.W.Frag => (He.Fa.noat "Chain" "_states").ok K) (KK P) = true := by kernel_rfl
theorem x133 (P : Params) : (fun K : PySem.W.Frag => (He.Fa.noat "Chain" "_receipts").ok K) (KK P) = true := by kernel_rfl
theorem x134 (P : Params) : (fun K : PySem.W.Frag => (He.Fa.noat "Chain" "_events").ok K) (KK P) = true := by kernel_rfl
theorem x135 (P : Params) : (fun K : PySem.W.Frag => (He.Fa.glo "Notary").ok K) (KK P) = true := by kernel_rfl
theorem x136 (P : Params) : (fun K : PySem.W.Frag => (He.Fa.cls "Notary").ok K) (KK P) = true := by kernel_rfl
theorem x137 (P : Params) : (fun K : PySem.W.Frag => (He.Fa.mkr "Notary").ok K) (KK P) = true := by kernel_rfl
theorem x138 (P : Params) : (fun K : PySem.W.Frag => (He.Fa.noat "Notary" "_table").ok K) (KK P) = true := by kernel_rfl
theorem x139 (P : Params) : (fun K : PySem.W.Frag => (He.Fa.noat "Notary" "_numbers").ok K) (KK P) = true := by kernel_rfl
theorem x140 (P : Params) : (fun K : PySem.W.Frag => (He.Fa.int "ACCOUNT_LENGTH" 20).ok K) (KK P) = true := by kernel_rfl
theorem x141 (P : Params) : (fun K : PySem.W.Frag => (He.Fa.int "BARRED_CODE" 37).ok K) (KK P) = true := by kernel_rfl
theorem x142 (P : Params) : (fun K : PySem.W.Frag => (He.Fa.int "FIRST" 0).ok K) (KK P) = true := by kernel_rfl
theorem x143 (P : Params) : (fun K : PySem.W.Frag => (He.Fa.int "FIRST_CODE" 32).ok K) (KK P) = true := by kernel_rfl
theorem x144 (P : Params) : (fun K : PySem.W.Frag => (He.Fa.int "LAST_CODE" 126).ok K) (KK P) = true := by kernel_rfl
theorem x145 (P : Params) : (fun K : PySem.W.Frag => (He.Fa.int "MOST_IN_BUNDLE" 8).ok K) (KK P) = true := by kernel_rfl
theorem x146 (P : Params) : (fun K : PySem.W.Frag => (He.Fa.glo "SIDES").ok K) (KK P) = true := by kernel_rfl
theorem x147 (P : Params) : (fun K : PySem.W.Frag => He.tupB K "SIDES" [.str "west", .str "east"]) (KK P) = true := by kernel_rfl
theorem x148 (P : Params) : (fun K : PySem.W.Frag => (He.Fa.int "TOKEN_LENGTH" 12).ok K) (KK P) = true := by kernel_rfl
theorem x149 (P : Params) : (fun K : PySem.W.Frag => (He.Fa.free "abs").ok K) (KK P) = true := by kernel_rfl
theorem x150 (P : Params) : (fun K : PySem.W.Frag => (He.Fa.free "any").ok K) (KK P) = true := by kernel_rfl
theorem x151 (P : Params) : (fun K : PySem.W.Frag => (He.Fa.free "bool").ok K) (KK P) = true := by kernel_rfl
theorem x152 (P : Params) : (fun K : PySem.W.Frag => (He.Fa.free "dict").ok K) (KK P) = true := by kernel_rfl
theorem x153 (P : Params) : (fun K : PySem.W.Frag => (He.Fa.free "int").ok K) (KK P) = true := by kernel_rfl
theorem x154 (P : Params) : (fun K : PySem.W.Frag => (He.Fa.free "isinstance").ok K) (KK P) = true := by kernel_rfl
theorem x155 (P : Params) : (fun K : PySem.W.Frag => (He.Fa.free "len").ok K) (KK P) = true := by kernel_rfl
theorem x156 (P : Params) : (fun K : PySem.W.Frag => (He.Fa.free "list").ok K) (KK P) = true := by kernel_rfl
theorem x157 (P : Params) : (fun K : PySem.W.Frag => (He.Fa.free "max").ok K) (KK P) = true := by kernel_rfl
theorem x158 (P : Params) : (fun K : PySem.W.Frag => (He.Fa.free "min").ok K) (KK P) = true := by kernel_rfl
theorem x159 (P : Params) : (fun K : PySem.W.Frag => (He.Fa.free "ord").ok K) (KK P) = true := by kernel_rfl
theorem x160 (P : Params) : (fun K : PySem.W.Frag => (He.Fa.free "range").ok K) (KK P) = true := by kernel_rfl
theorem x161 (P : Params) : (fun K : PySem.W.Frag => (He.Fa.free "sorted").ok K) (KK P) = true := by kernel_rfl
theorem x162 (P : Params) : (fun K : PySem.W.Frag => (He.Fa.free "str").ok K) (KK P) = true := by kernel_rfl
theorem x163 (P : Params) : (fun K : PySem.W.Frag => (He.Fa.free "tuple").ok K) (KK P) = true := by kernel_rfl
theorem D0 (P : Params) : ∃ d : FuncData, (Fun (KK P) "__init__" "Blocks.__init__" s_Blocks_init (He.fAd (KK P) ("Blocks", some "__init__")) d) ∧ (Binds (KK P) d ["self", "depth", "first"] []) := by
  obtain ⟨fd, F⟩ := He.DefD.funD (K := KK P) (d := dd0) (by kernel_rfl) (by kernel_rfl)
  have F : FunD (KK P) "__init__" "Blocks.__init__" (defArgs s_Blocks_init) (defBody s_Blocks_init) (defScope s_Blocks_init) [] [] (He.fAd (KK P) ("Blocks", some "__init__")) fd := F
  have F0 : Fun (KK P) "__init__" "Blocks.__init__" s_Blocks_init (He.fAd (KK P) ("Blocks", some "__init__")) fd := fun_of F
  exact ⟨fd, F0, Fun.binds F0 (ps := ["self", "depth", "first"]) fun _ _ _ _ _ _ us hl => match us, hl with | [_, _, _], _ => rfl⟩
theorem D1 (P : Params) : ∃ d : FuncData, (Fun (KK P) "has" "Blocks.has" s_Blocks_has (He.fAd (KK P) ("Blocks", some "has")) d) ∧ (Binds (KK P) d ["self", "number"] []) := by
  obtain ⟨fd, F⟩ := He.DefD.funD (K := KK P) (d := dd1) (by kernel_rfl) (by kernel_rfl)
  have F : FunD (KK P) "has" "Blocks.has" (defArgs s_Blocks_has) (defBody s_Blocks_has) (defScope s_Blocks_has) [] [] (He.fAd (KK P) ("Blocks", some "has")) fd := F
  have F0 : Fun (KK P) "has" "Blocks.has" s_Blocks_has (He.fAd (KK P) ("Blocks", some "has")) fd := fun_of F
  exact ⟨fd, F0, Fun.binds F0 (ps := ["self", "number"]) fun _ _ _ _ _ _ us hl => match us, hl with | [_, _], _ => rfl⟩
theorem D2 (P : Params) : ∃ d : FuncData, (Fun (KK P) "numbers" "Blocks.numbers" s_Blocks_numbers (He.fAd (KK P) ("Blocks", some "numbers")) d) ∧ (Binds (KK P) d ["self"] []) := by
  obtain ⟨fd, F⟩ := He.DefD.funD (K := KK P) (d := dd2) (by kernel_rfl) (by kernel_rfl)
  have F : FunD (KK P) "numbers" "Blocks.numbers" (defArgs s_Blocks_numbers) (defBody s_Blocks_numbers) (defScope s_Blocks_numbers) [] [] (He.fAd (KK P) ("Blocks", some "numbers")) fd := F
  have F0 : Fun (KK P) "numbers" "Blocks.numbers" s_Blocks_numbers (He.fAd (KK P) ("Blocks", some "numbers")) fd := fun_of F
  exact ⟨fd, F0, Fun.binds F0 (ps := ["self"]) fun _ _ _ _ _ _ us hl => match us, hl with | [_], _ => rfl⟩
theorem D3 (P : Params) : ∃ d : FuncData, (Fun (KK P) "parent" "Blocks.parent" s_Blocks_parent (He.fAd (KK P) ("Blocks", some "parent")) d) ∧ (Binds (KK P) d ["self", "number"] []) := by
  obtain ⟨fd, F⟩ := He.DefD.funD (K := KK P) (d := dd3) (by kernel_rfl) (by kernel_rfl)
  have F : FunD (KK P) "parent" "Blocks.parent" (defArgs s_Blocks_parent) (defBody s_Blocks_parent) (defScope s_Blocks_parent) [] [] (He.fAd (KK P) ("Blocks", some "parent")) fd := F
  have F0 : Fun (KK P) "parent" "Blocks.parent" s_Blocks_parent (He.fAd (KK P) ("Blocks", some "parent")) fd := fun_of F
  exact ⟨fd, F0, Fun.binds F0 (ps := ["self", "number"]) fun _ _ _ _ _ _ us hl => match us, hl with | [_, _], _ => rfl⟩
theorem D4 (P : Params) : ∃ d : FuncData, (Fun (KK P) "place" "Blocks.place" s_Blocks_place (He.fAd (KK P) ("Blocks", some "place")) d) ∧ (Binds (KK P) d ["self", "number", "parent"] []) := by
  obtain ⟨fd, F⟩ := He.DefD.funD (K := KK P) (d := dd4) (by kernel_rfl) (by kernel_rfl)
  have F : FunD (KK P) "place" "Blocks.place" (defArgs s_Blocks_place) (defBody s_Blocks_place) (defScope s_Blocks_place) [] [] (He.fAd (KK P) ("Blocks", some "place")) fd := F
  have F0 : Fun (KK P) "place" "Blocks.place" s_Blocks_place (He.fAd (KK P) ("Blocks", some "place")) fd := fun_of F
  exact ⟨fd, F0, Fun.binds F0 (ps := ["self", "number", "parent"]) fun _ _ _ _ _ _ us hl => match us, hl with | [_, _, _], _ => rfl⟩
theorem D5 (P : Params) : ∃ d : FuncData, (Fun (KK P) "final" "Blocks.final" s_Blocks_final (He.fAd (KK P) ("Blocks", some "final")) d) ∧ (Binds (KK P) d ["self"] []) := by
  obtain ⟨fd, F⟩ := He.DefD.funD (K := KK P) (d := dd5) (by kernel_rfl) (by kernel_rfl)
  have F : FunD (KK P) "final" "Blocks.final" (defArgs s_Blocks_final) (defBody s_Blocks_final) (defScope s_Blocks_final) [] [] (He.fAd (KK P) ("Blocks", some "final")) fd := F
  have F0 : Fun (KK P) "final" "Blocks.final" s_Blocks_final (He.fAd (KK P) ("Blocks", some "final")) fd := fun_of F
  exact ⟨fd, F0, Fun.binds F0 (ps := ["self"]) fun _ _ _ _ _ _ us hl => match us, hl with | [_], _ => rfl⟩
theorem D6 (P : Params) : ∃ d : FuncData, (Fun (KK P) "is_live" "Blocks.is_live" s_Blocks_is_live (He.fAd (KK P) ("Blocks", some "is_live")) d) ∧ (Binds (KK P) d ["self", "number"] []) := by
  obtain ⟨fd, F⟩ := He.DefD.funD (K := KK P) (d := dd6) (by kernel_rfl) (by kernel_rfl)
  have F : FunD (KK P) "is_live" "Blocks.is_live" (defArgs s_Blocks_is_live) (defBody s_Blocks_is_live) (defScope s_Blocks_is_live) [] [] (He.fAd (KK P) ("Blocks", some "is_live")) fd := F
  have F0 : Fun (KK P) "is_live" "Blocks.is_live" s_Blocks_is_live (He.fAd (KK P) ("Blocks", some "is_live")) fd := fun_of F
  exact ⟨fd, F0, Fun.binds F0 (ps := ["self", "number"]) fun _ _ _ _ _ _ us hl => match us, hl with | [_, _], _ => rfl⟩
theorem D7 (P : Params) : ∃ d : FuncData, (Fun (KK P) "live_tips" "Blocks.live_tips" s_Blocks_live_tips (He.fAd (KK P) ("Blocks", some "live_tips")) d) ∧ (Binds (KK P) d ["self"] []) := by
  obtain ⟨fd, F⟩ := He.DefD.funD (K := KK P) (d := dd7) (by kernel_rfl) (by kernel_rfl)
  have F : FunD (KK P) "live_tips" "Blocks.live_tips" (defArgs s_Blocks_live_tips) (defBody s_Blocks_live_tips) (defScope s_Blocks_live_tips) [] [] (He.fAd (KK P) ("Blocks", some "live_tips")) fd := F
  have F0 : Fun (KK P) "live_tips" "Blocks.live_tips" s_Blocks_live_tips (He.fAd (KK P) ("Blocks", some "live_tips")) fd := fun_of F
  exact ⟨fd, F0, Fun.binds F0 (ps := ["self"]) fun _ _ _ _ _ _ us hl => match us, hl with | [_], _ => rfl⟩
theorem D8 (P : Params) : ∃ d : FuncData, (Fun (KK P) "_below" "Blocks._below" s_Blocks_below (He.fAd (KK P) ("Blocks", some "_below")) d) ∧ (Binds (KK P) d ["self", "number", "height"] []) := by
  obtain ⟨fd, F⟩ := He.DefD.funD (K := KK P) (d := dd8) (by kernel_rfl) (by kernel_rfl)
  have F : FunD (KK P) "_below" "Blocks._below" (defArgs s_Blocks_below) (defBody s_Blocks_below) (defScope s_Blocks_below) [] [] (He.fAd (KK P) ("Blocks", some "_below")) fd := F
  have F0 : Fun (KK P) "_below" "Blocks._below" s_Blocks_below (He.fAd (KK P) ("Blocks", some "_below")) fd := fun_of F
  exact ⟨fd, F0, Fun.binds F0 (ps := ["self", "number", "height"]) fun _ _ _ _ _ _ us hl => match us, hl with | [_, _, _], _ => rfl⟩
theorem D9 (P : Params) : ∃ d : FuncData, (Fun (KK P) "is_integer" "is_integer" s_is_integer (He.fAd (KK P) ("is_integer", none)) d) ∧ (Binds (KK P) d ["value"] []) := by
  obtain ⟨fd, F⟩ := He.DefD.funD (K := KK P) (d := dd9) (by kernel_rfl) (by kernel_rfl)
  have F : FunD (KK P) "is_integer" "is_integer" (defArgs s_is_integer) (defBody s_is_integer) (defScope s_is_integer) [] [] (He.fAd (KK P) ("is_integer", none)) fd := F
  have F0 : Fun (KK P) "is_integer" "is_integer" s_is_integer (He.fAd (KK P) ("is_integer", none)) fd := fun_of F
  exact ⟨fd, F0, Fun.binds F0 (ps := ["value"]) fun _ _ _ _ _ _ us hl => match us, hl with | [_], _ => rfl⟩
theorem D10 (P : Params) : ∃ d : FuncData, (Fun (KK P) "is_at_least" "is_at_least" s_is_at_least (He.fAd (KK P) ("is_at_least", none)) d) ∧ (Binds (KK P) d ["value", "least"] []) := by
  obtain ⟨fd, F⟩ := He.DefD.funD (K := KK P) (d := dd10) (by kernel_rfl) (by kernel_rfl)
  have F : FunD (KK P) "is_at_least" "is_at_least" (defArgs s_is_at_least) (defBody s_is_at_least) (defScope s_is_at_least) [] [] (He.fAd (KK P) ("is_at_least", none)) fd := F
  have F0 : Fun (KK P) "is_at_least" "is_at_least" s_is_at_least (He.fAd (KK P) ("is_at_least", none)) fd := fun_of F
  exact ⟨fd, F0, Fun.binds F0 (ps := ["value", "least"]) fun _ _ _ _ _ _ us hl => match us, hl with | [_, _], _ => rfl⟩
theorem D11 (P : Params) : ∃ d : FuncData, (Fun (KK P) "is_text" "is_text" s_is_text (He.fAd (KK P) ("is_text", none)) d) ∧ (Binds (KK P) d ["value"] []) := by
  obtain ⟨fd, F⟩ := He.DefD.funD (K := KK P) (d := dd11) (by kernel_rfl) (by kernel_rfl)
  have F : FunD (KK P) "is_text" "is_text" (defArgs s_is_text) (defBody s_is_text) (defScope s_is_text) [] [] (He.fAd (KK P) ("is_text", none)) fd := F
  have F0 : Fun (KK P) "is_text" "is_text" s_is_text (He.fAd (KK P) ("is_text", none)) fd := fun_of F
  exact ⟨fd, F0, Fun.binds F0 (ps := ["value"]) fun _ _ _ _ _ _ us hl => match us, hl with | [_], _ => rfl⟩
theorem D12 (P : Params) : ∃ d : FuncData, (Fun (KK P) "is_short_text" "is_short_text" s_is_short_text (He.fAd (KK P) ("is_short_text", none)) d) ∧ (Binds (KK P) d ["value", "most"] []) := by
  obtain ⟨fd, F⟩ := He.DefD.funD (K := KK P) (d := dd12) (by kernel_rfl) (by kernel_rfl)
  have F : FunD (KK P) "is_short_text" "is_short_text" (defArgs s_is_short_text) (defBody s_is_short_text) (defScope s_is_short_text) [] [] (He.fAd (KK P) ("is_short_text", none)) fd := F
  have F0 : Fun (KK P) "is_short_text" "is_short_text" s_is_short_text (He.fAd (KK P) ("is_short_text", none)) fd := fun_of F
  exact ⟨fd, F0, Fun.binds F0 (ps := ["value", "most"]) fun _ _ _ _ _ _ us hl => match us, hl with | [_, _], _ => rfl⟩
theorem D13 (P : Params) : ∃ d : FuncData, (Fun (KK P) "is_account" "is_account" s_is_account (He.fAd (KK P) ("is_account", none)) d) ∧ (Binds (KK P) d ["value"] []) := by
  obtain ⟨fd, F⟩ := He.DefD.funD (K := KK P) (d := dd13) (by kernel_rfl) (by kernel_rfl)
  have F : FunD (KK P) "is_account" "is_account" (defArgs s_is_account) (defBody s_is_account) (defScope s_is_account) [] [] (He.fAd (KK P) ("is_account", none)) fd := F
  have F0 : Fun (KK P) "is_account" "is_account" s_is_account (He.fAd (KK P) ("is_account", none)) fd := fun_of F
  exact ⟨fd, F0, Fun.binds F0 (ps := ["value"]) fun _ _ _ _ _ _ us hl => match us, hl with | [_], _ => rfl⟩
theorem D14 (P : Params) : ∃ d : FuncData, (Fun (KK P) "is_side" "is_side" s_is_side (He.fAd (KK P) ("is_side", none)) d) ∧ (Binds (KK P) d ["value"] []) := by
  obtain ⟨fd, F⟩ := He.DefD.funD (K := KK P) (d := dd14) (by kernel_rfl) (by kernel_rfl)
  have F : FunD (KK P) "is_side" "is_side" (defArgs s_is_side) (defBody s_is_side) (defScope s_is_side) [] [] (He.fAd (KK P) ("is_side", none)) fd := F
  have F0 : Fun (KK P) "is_side" "is_side" s_is_side (He.fAd (KK P) ("is_side", none)) fd := fun_of F
  exact ⟨fd, F0, Fun.binds F0 (ps := ["value"]) fun _ _ _ _ _ _ us hl => match us, hl with | [_], _ => rfl⟩
theorem D15 (P : Params) : ∃ d : FuncData, (Fun (KK P) "is_set" "is_set" s_is_set (He.fAd (KK P) ("is_set", none)) d) ∧ (Binds (KK P) d ["value"] []) := by
  obtain ⟨fd, F⟩ := He.DefD.funD (K := KK P) (d := dd15) (by kernel_rfl) (by kernel_rfl)
  have F : FunD (KK P) "is_set" "is_set" (defArgs s_is_set) (defBody s_is_set) (defScope s_is_set) [] [] (He.fAd (KK P) ("is_set", none)) fd := F
  have F0 : Fun (KK P) "is_set" "is_set" s_is_set (He.fAd (KK P) ("is_set", none)) fd := fun_of F
  exact ⟨fd, F0, Fun.binds F0 (ps := ["value"]) fun _ _ _ _ _ _ us hl => match us, hl with | [_], _ => rfl⟩
theorem D16 (P : Params) : ∃ d : FuncData, (Fun (KK P) "is_pair" "is_pair" s_is_pair (He.fAd (KK P) ("is_pair", none)) d) ∧ (Binds (KK P) d ["part"] []) := by
  obtain ⟨fd, F⟩ := He.DefD.funD (K := KK P) (d := dd16) (by kernel_rfl) (by kernel_rfl)
  have F : FunD (KK P) "is_pair" "is_pair" (defArgs s_is_pair) (defBody s_is_pair) (defScope s_is_pair) [] [] (He.fAd (KK P) ("is_pair", none)) fd := F
  have F0 : Fun (KK P) "is_pair" "is_pair" s_is_pair (He.fAd (KK P) ("is_pair", none)) fd := fun_of F
  exact ⟨fd, F0, Fun.binds F0 (ps := ["part"]) fun _ _ _ _ _ _ us hl => match us, hl with | [_], _ => rfl⟩
theorem D17 (P : Params) : ∃ d : FuncData, (Fun (KK P) "__init__" "Config.__init__" s_Config_init (He.fAd (KK P) ("Config", some "__init__")) d) ∧ (KBn (KK P) d ["self", "tokens", "balances", "guards", "depth", "window", "delay", "bundle"] 1 ["tokens", "balances", "guards", "depth", "window", "delay", "bundle"] (fun us ws => us ++ ws) (fun vs zs => vs ++ zs)) := by
  obtain ⟨fd, F⟩ := He.DefD.funD (K := KK P) (d := dd17) (by kernel_rfl) (by kernel_rfl)
  have F : FunD (KK P) "__init__" "Config.__init__" (defArgs s_Config_init) (defBody s_Config_init) (defScope s_Config_init) [] [("depth", .int 2), ("window", .int 4), ("delay", .int 2), ("bundle", .int 4)] (He.fAd (KK P) ("Config", some "__init__")) fd := F
  have F0 : Fun (KK P) "__init__" "Config.__init__" s_Config_init (He.fAd (KK P) ("Config", some "__init__")) fd := fun_of F
  exact ⟨fd, F0, kbn_of F fun _ _ _ _ _ _ us ws l1 l2 => match us, ws, l1, l2 with | [_], [_, _, _, _, _, _, _], _, _ => rfl⟩
theorem D18 (P : Params) : ∃ d : FuncData, (Fun (KK P) "check_token" "Config.check_token" s_Config_check_token (He.fAd (KK P) ("Config", some "check_token")) d) ∧ (Binds (KK P) d ["self", "token"] []) := by
  obtain ⟨fd, F⟩ := He.DefD.funD (K := KK P) (d := dd18) (by kernel_rfl) (by kernel_rfl)
  have F : FunD (KK P) "check_token" "Config.check_token" (defArgs s_Config_check_token) (defBody s_Config_check_token) (defScope s_Config_check_token) [] [] (He.fAd (KK P) ("Config", some "check_token")) fd := F
  have F0 : Fun (KK P) "check_token" "Config.check_token" s_Config_check_token (He.fAd (KK P) ("Config", some "check_token")) fd := fun_of F
  exact ⟨fd, F0, Fun.binds F0 (ps := ["self", "token"]) fun _ _ _ _ _ _ us hl => match us, hl with | [_, _], _ => rfl⟩
theorem D19 (P : Params) : ∃ d : FuncData, (Fun (KK P) "home" "Config.home" s_Config_home (He.fAd (KK P) ("Config", some "home")) d) ∧ (Binds (KK P) d ["self", "token"] []) := by
  obtain ⟨fd, F⟩ := He.DefD.funD (K := KK P) (d := dd19) (by kernel_rfl) (by kernel_rfl)
  have F : FunD (KK P) "home" "Config.home" (defArgs s_Config_home) (defBody s_Config_home) (defScope s_Config_home) [] [] (He.fAd (KK P) ("Config", some "home")) fd := F
  have F0 : Fun (KK P) "home" "Config.home" s_Config_home (He.fAd (KK P) ("Config", some "home")) fd := fun_of F
  exact ⟨fd, F0, Fun.binds F0 (ps := ["self", "token"]) fun _ _ _ _ _ _ us hl => match us, hl with | [_, _], _ => rfl⟩
theorem D20 (P : Params) : ∃ d : FuncData, (Fun (KK P) "scale" "Config.scale" s_Config_scale (He.fAd (KK P) ("Config", some "scale")) d) ∧ (Binds (KK P) d ["self", "token"] []) := by
  obtain ⟨fd, F⟩ := He.DefD.funD (K := KK P) (d := dd20) (by kernel_rfl) (by kernel_rfl)
  have F : FunD (KK P) "scale" "Config.scale" (defArgs s_Config_scale) (defBody s_Config_scale) (defScope s_Config_scale) [] [] (He.fAd (KK P) ("Config", some "scale")) fd := F
  have F0 : Fun (KK P) "scale" "Config.scale" s_Config_scale (He.fAd (KK P) ("Config", some "scale")) fd := fun_of F
  exact ⟨fd, F0, Fun.binds F0 (ps := ["self", "token"]) fun _ _ _ _ _ _ us hl => match us, hl with | [_, _], _ => rfl⟩
theorem D21 (P : Params) : ∃ d : FuncData, (Fun (KK P) "opening" "Config.opening" s_Config_opening (He.fAd (KK P) ("Config", some "opening")) d) ∧ (Binds (KK P) d ["self", "side"] []) := by
  obtain ⟨fd, F⟩ := He.DefD.funD (K := KK P) (d := dd21) (by kernel_rfl) (by kernel_rfl)
  have F : FunD (KK P) "opening" "Config.opening" (defArgs s_Config_opening) (defBody s_Config_opening) (defScope s_Config_opening) [] [] (He.fAd (KK P) ("Config", some "opening")) fd := F
  have F0 : Fun (KK P) "opening" "Config.opening" s_Config_opening (He.fAd (KK P) ("Config", some "opening")) fd := fun_of F
  exact ⟨fd, F0, Fun.binds F0 (ps := ["self", "side"]) fun _ _ _ _ _ _ us hl => match us, hl with | [_, _], _ => rfl⟩
theorem D22 (P : Params) : ∃ d : FuncData, (Fun (KK P) "guards" "Config.guards" s_Config_guards (He.fAd (KK P) ("Config", some "guards")) d) ∧ (Binds (KK P) d ["self"] []) := by
  obtain ⟨fd, F⟩ := He.DefD.funD (K := KK P) (d := dd22) (by kernel_rfl) (by kernel_rfl)
  have F : FunD (KK P) "guards" "Config.guards" (defArgs s_Config_guards) (defBody s_Config_guards) (defScope s_Config_guards) [] [] (He.fAd (KK P) ("Config", some "guards")) fd := F
  have F0 : Fun (KK P) "guards" "Config.guards" s_Config_guards (He.fAd (KK P) ("Config", some "guards")) fd := fun_of F
  exact ⟨fd, F0, Fun.binds F0 (ps := ["self"]) fun _ _ _ _ _ _ us hl => match us, hl with | [_], _ => rfl⟩
theorem D23 (P : Params) : ∃ d : FuncData, (Fun (KK P) "depth" "Config.depth" s_Config_depth (He.fAd (KK P) ("Config", some "depth")) d) ∧ (Binds (KK P) d ["self"] []) := by
  obtain ⟨fd, F⟩ := He.DefD.funD (K := KK P) (d := dd23) (by kernel_rfl) (by kernel_rfl)
  have F : FunD (KK P) "depth" "Config.depth" (defArgs s_Config_depth) (defBody s_Config_depth) (defScope s_Config_depth) [] [] (He.fAd (KK P) ("Config", some "depth")) fd := F
  have F0 : Fun (KK P) "depth" "Config.depth" s_Config_depth (He.fAd (KK P) ("Config", some "depth")) fd := fun_of F
  exact ⟨fd, F0, Fun.binds F0 (ps := ["self"]) fun _ _ _ _ _ _ us hl => match us, hl with | [_], _ => rfl⟩
theorem D24 (P : Params) : ∃ d : FuncData, (Fun (KK P) "window" "Config.window" s_Config_window (He.fAd (KK P) ("Config", some "window")) d) ∧ (Binds (KK P) d ["self"] []) := by
  obtain ⟨fd, F⟩ := He.DefD.funD (K := KK P) (d := dd24) (by kernel_rfl) (by kernel_rfl)
  have F : FunD (KK P) "window" "Config.window" (defArgs s_Config_window) (defBody s_Config_window) (defScope s_Config_window) [] [] (He.fAd (KK P) ("Config", some "window")) fd := F
  have F0 : Fun (KK P) "window" "Config.window" s_Config_window (He.fAd (KK P) ("Config", some "window")) fd := fun_of F
  exact ⟨fd, F0, Fun.binds F0 (ps := ["self"]) fun _ _ _ _ _ _ us hl => match us, hl with | [_], _ => rfl⟩
theorem D25 (P : Params) : ∃ d : FuncData, (Fun (KK P) "delay" "Config.delay" s_Config_delay (He.fAd (KK P) ("Config", some "delay")) d) ∧ (Binds (KK P) d ["self"] []) := by
  obtain ⟨fd, F⟩ := He.DefD.funD (K := KK P) (d := dd25) (by kernel_rfl) (by kernel_rfl)
  have F : FunD (KK P) "delay" "Config.delay" (defArgs s_Config_delay) (defBody s_Config_delay) (defScope s_Config_delay) [] [] (He.fAd (KK P) ("Config", some "delay")) fd := F
  have F0 : Fun (KK P) "delay" "Config.delay" s_Config_delay (He.fAd (KK P) ("Config", some "delay")) fd := fun_of F
  exact ⟨fd, F0, Fun.binds F0 (ps := ["self"]) fun _ _ _ _ _ _ us hl => match us, hl with | [_], _ => rfl⟩
theorem D26 (P : Params) : ∃ d : FuncData, (Fun (KK P) "bundle" "Config.bundle" s_Config_bundle (He.fAd (KK P) ("Config", some "bundle")) d) ∧ (Binds (KK P) d ["self"] []) := by
  obtain ⟨fd, F⟩ := He.DefD.funD (K := KK P) (d := dd26) (by kernel_rfl) (by kernel_rfl)
  have F : FunD (KK P) "bundle" "Config.bundle" (defArgs s_Config_bundle) (defBody s_Config_bundle) (defScope s_Config_bundle) [] [] (He.fAd (KK P) ("Config", some "bundle")) fd := F
  have F0 : Fun (KK P) "bundle" "Config.bundle" s_Config_bundle (He.fAd (KK P) ("Config", some "bundle")) fd := fun_of F
  exact ⟨fd, F0, Fun.binds F0 (ps := ["self"]) fun _ _ _ _ _ _ us hl => match us, hl with | [_], _ => rfl⟩
theorem D27 (P : Params) : ∃ d : FuncData, (Fun (KK P) "check_list" "check_list" s_check_list (He.fAd (KK P) ("check_list", none)) d) ∧ (Binds (KK P) d ["name", "value"] []) := by
  obtain ⟨fd, F⟩ := He.DefD.funD (K := KK P) (d := dd27) (by kernel_rfl) (by kernel_rfl)
  have F : FunD (KK P) "check_list" "check_list" (defArgs s_check_list) (defBody s_check_list) (defScope s_check_list) [] [] (He.fAd (KK P) ("check_list", none)) fd := F
  have F0 : Fun (KK P) "check_list" "check_list" s_check_list (He.fAd (KK P) ("check_list", none)) fd := fun_of F
  exact ⟨fd, F0, Fun.binds F0 (ps := ["name", "value"]) fun _ _ _ _ _ _ us hl => match us, hl with | [_, _], _ => rfl⟩
theorem D28 (P : Params) : ∃ d : FuncData, (Fun (KK P) "check_least" "check_least" s_check_least (He.fAd (KK P) ("check_least", none)) d) ∧ (Binds (KK P) d ["name", "value", "least"] []) := by
  obtain ⟨fd, F⟩ := He.DefD.funD (K := KK P) (d := dd28) (by kernel_rfl) (by kernel_rfl)
  have F : FunD (KK P) "check_least" "check_least" (defArgs s_check_least) (defBody s_check_least) (defScope s_check_least) [] [] (He.fAd (KK P) ("check_least", none)) fd := F
  have F0 : Fun (KK P) "check_least" "check_least" s_check_least (He.fAd (KK P) ("check_least", none)) fd := fun_of F
  exact ⟨fd, F0, Fun.binds F0 (ps := ["name", "value", "least"]) fun _ _ _ _ _ _ us hl => match us, hl with | [_, _, _], _ => rfl⟩
theorem D29 (P : Params) : ∃ d : FuncData, (Fun (KK P) "check_token_row" "check_token_row" s_check_token_row (He.fAd (KK P) ("check_token_row", none)) d) ∧ (Binds (KK P) d ["row"] []) := by
  obtain ⟨fd, F⟩ := He.DefD.funD (K := KK P) (d := dd29) (by kernel_rfl) (by kernel_rfl)
  have F : FunD (KK P) "check_token_row" "check_token_row" (defArgs s_check_token_row) (defBody s_check_token_row) (defScope s_check_token_row) [] [] (He.fAd (KK P) ("check_token_row", none)) fd := F
  have F0 : Fun (KK P) "check_token_row" "check_token_row" s_check_token_row (He.fAd (KK P) ("check_token_row", none)) fd := fun_of F
  exact ⟨fd, F0, Fun.binds F0 (ps := ["row"]) fun _ _ _ _ _ _ us hl => match us, hl with | [_], _ => rfl⟩
theorem D30 (P : Params) : ∃ d : FuncData, (Fun (KK P) "check_balance_row" "check_balance_row" s_check_balance_row (He.fAd (KK P) ("check_balance_row", none)) d) ∧ (Binds (KK P) d ["row", "tokens"] []) := by
  obtain ⟨fd, F⟩ := He.DefD.funD (K := KK P) (d := dd30) (by kernel_rfl) (by kernel_rfl)
  have F : FunD (KK P) "check_balance_row" "check_balance_row" (defArgs s_check_balance_row) (defBody s_check_balance_row) (defScope s_check_balance_row) [] [] (He.fAd (KK P) ("check_balance_row", none)) fd := F
  have F0 : Fun (KK P) "check_balance_row" "check_balance_row" s_check_balance_row (He.fAd (KK P) ("check_balance_row", none)) fd := fun_of F
  exact ⟨fd, F0, Fun.binds F0 (ps := ["row", "tokens"]) fun _ _ _ _ _ _ us hl => match us, hl with | [_, _], _ => rfl⟩
theorem D31 (P : Params) : ∃ d : FuncData, (Fun (KK P) "next_height" "next_height" s_next_height (He.fAd (KK P) ("next_height", none)) d) ∧ (Binds (KK P) d ["state"] []) := by
  obtain ⟨fd, F⟩ := He.DefD.funD (K := KK P) (d := dd31) (by kernel_rfl) (by kernel_rfl)
  have F : FunD (KK P) "next_height" "next_height" (defArgs s_next_height) (defBody s_next_height) (defScope s_next_height) [] [] (He.fAd (KK P) ("next_height", none)) fd := F
  have F0 : Fun (KK P) "next_height" "next_height" s_next_height (He.fAd (KK P) ("next_height", none)) fd := fun_of F
  exact ⟨fd, F0, Fun.binds F0 (ps := ["state"]) fun _ _ _ _ _ _ us hl => match us, hl with | [_], _ => rfl⟩
theorem D32 (P : Params) : ∃ d : FuncData, (Fun (KK P) "after_block" "after_block" s_after_block (He.fAd (KK P) ("after_block", none)) d) ∧ (Binds (KK P) d ["config", "notary", "state", "orders"] []) := by
  obtain ⟨fd, F⟩ := He.DefD.funD (K := KK P) (d := dd32) (by kernel_rfl) (by kernel_rfl)
  have F : FunD (KK P) "after_block" "after_block" (defArgs s_after_block) (defBody s_after_block) (defScope s_after_block) [] [] (He.fAd (KK P) ("after_block", none)) fd := F
  have F0 : Fun (KK P) "after_block" "after_block" s_after_block (He.fAd (KK P) ("after_block", none)) fd := fun_of F
  exact ⟨fd, F0, Fun.binds F0 (ps := ["config", "notary", "state", "orders"]) fun _ _ _ _ _ _ us hl => match us, hl with | [_, _, _, _], _ => rfl⟩
theorem D33 (P : Params) : ∃ d : FuncData, (Fun (KK P) "__init__" "Sheet.__init__" s_Sheet_init (He.fAd (KK P) ("Sheet", some "__init__")) d) ∧ (Binds (KK P) d ["self", "config", "side"] []) := by
  obtain ⟨fd, F⟩ := He.DefD.funD (K := KK P) (d := dd33) (by kernel_rfl) (by kernel_rfl)
  have F : FunD (KK P) "__init__" "Sheet.__init__" (defArgs s_Sheet_init) (defBody s_Sheet_init) (defScope s_Sheet_init) [] [] (He.fAd (KK P) ("Sheet", some "__init__")) fd := F
  have F0 : Fun (KK P) "__init__" "Sheet.__init__" s_Sheet_init (He.fAd (KK P) ("Sheet", some "__init__")) fd := fun_of F
  exact ⟨fd, F0, Fun.binds F0 (ps := ["self", "config", "side"]) fun _ _ _ _ _ _ us hl => match us, hl with | [_, _, _], _ => rfl⟩
theorem D34 (P : Params) : ∃ d : FuncData, (Fun (KK P) "copy" "Sheet.copy" s_Sheet_copy (He.fAd (KK P) ("Sheet", some "copy")) d) ∧ (Binds (KK P) d ["self"] []) := by
  obtain ⟨fd, F⟩ := He.DefD.funD (K := KK P) (d := dd34) (by kernel_rfl) (by kernel_rfl)
  have F : FunD (KK P) "copy" "Sheet.copy" (defArgs s_Sheet_copy) (defBody s_Sheet_copy) (defScope s_Sheet_copy) [] [] (He.fAd (KK P) ("Sheet", some "copy")) fd := F
  have F0 : Fun (KK P) "copy" "Sheet.copy" s_Sheet_copy (He.fAd (KK P) ("Sheet", some "copy")) fd := fun_of F
  exact ⟨fd, F0, Fun.binds F0 (ps := ["self"]) fun _ _ _ _ _ _ us hl => match us, hl with | [_], _ => rfl⟩
theorem D35 (P : Params) : ∃ d : FuncData, (Fun (KK P) "copied" "copied" s_copied (He.fAd (KK P) ("copied", none)) d) ∧ (Binds (KK P) d ["table"] []) := by
  obtain ⟨fd, F⟩ := He.DefD.funD (K := KK P) (d := dd35) (by kernel_rfl) (by kernel_rfl)
  have F : FunD (KK P) "copied" "copied" (defArgs s_copied) (defBody s_copied) (defScope s_copied) [] [] (He.fAd (KK P) ("copied", none)) fd := F
  have F0 : Fun (KK P) "copied" "copied" s_copied (He.fAd (KK P) ("copied", none)) fd := fun_of F
  exact ⟨fd, F0, Fun.binds F0 (ps := ["table"]) fun _ _ _ _ _ _ us hl => match us, hl with | [_], _ => rfl⟩
theorem D36 (P : Params) : ∃ d : FuncData, (Fun (KK P) "held" "held" s_held (He.fAd (KK P) ("held", none)) d) ∧ (Binds (KK P) d ["table", "token", "name"] []) := by
  obtain ⟨fd, F⟩ := He.DefD.funD (K := KK P) (d := dd36) (by kernel_rfl) (by kernel_rfl)
  have F : FunD (KK P) "held" "held" (defArgs s_held) (defBody s_held) (defScope s_held) [] [] (He.fAd (KK P) ("held", none)) fd := F
  have F0 : Fun (KK P) "held" "held" s_held (He.fAd (KK P) ("held", none)) fd := fun_of F
  exact ⟨fd, F0, Fun.binds F0 (ps := ["table", "token", "name"]) fun _ _ _ _ _ _ us hl => match us, hl with | [_, _, _], _ => rfl⟩
theorem D37 (P : Params) : ∃ d : FuncData, (Fun (KK P) "put" "put" s_put (He.fAd (KK P) ("put", none)) d) ∧ (Binds (KK P) d ["table", "token", "name", "amount"] []) := by
  obtain ⟨fd, F⟩ := He.DefD.funD (K := KK P) (d := dd37) (by kernel_rfl) (by kernel_rfl)
  have F : FunD (KK P) "put" "put" (defArgs s_put) (defBody s_put) (defScope s_put) [] [] (He.fAd (KK P) ("put", none)) fd := F
  have F0 : Fun (KK P) "put" "put" s_put (He.fAd (KK P) ("put", none)) fd := fun_of F
  exact ⟨fd, F0, Fun.binds F0 (ps := ["table", "token", "name", "amount"]) fun _ _ _ _ _ _ us hl => match us, hl with | [_, _, _, _], _ => rfl⟩
theorem D38 (P : Params) : ∃ d : FuncData, (Fun (KK P) "__init__" "State.__init__" s_State_init (He.fAd (KK P) ("State", some "__init__")) d) ∧ (Binds (KK P) d ["self", "config", "side", "sheet"] []) := by
  obtain ⟨fd, F⟩ := He.DefD.funD (K := KK P) (d := dd38) (by kernel_rfl) (by kernel_rfl)
  have F : FunD (KK P) "__init__" "State.__init__" (defArgs s_State_init) (defBody s_State_init) (defScope s_State_init) [] [] (He.fAd (KK P) ("State", some "__init__")) fd := F
  have F0 : Fun (KK P) "__init__" "State.__init__" s_State_init (He.fAd (KK P) ("State", some "__init__")) fd := fun_of F
  exact ⟨fd, F0, Fun.binds F0 (ps := ["self", "config", "side", "sheet"]) fun _ _ _ _ _ _ us hl => match us, hl with | [_, _, _, _], _ => rfl⟩
theorem D39 (P : Params) : ∃ d : FuncData, (Fun (KK P) "copy" "State.copy" s_State_copy (He.fAd (KK P) ("State", some "copy")) d) ∧ (Binds (KK P) d ["self"] []) := by
  obtain ⟨fd, F⟩ := He.DefD.funD (K := KK P) (d := dd39) (by kernel_rfl) (by kernel_rfl)
  have F : FunD (KK P) "copy" "State.copy" (defArgs s_State_copy) (defBody s_State_copy) (defScope s_State_copy) [] [] (He.fAd (KK P) ("State", some "copy")) fd := F
  have F0 : Fun (KK P) "copy" "State.copy" s_State_copy (He.fAd (KK P) ("State", some "copy")) fd := fun_of F
  exact ⟨fd, F0, Fun.binds F0 (ps := ["self"]) fun _ _ _ _ _ _ us hl => match us, hl with | [_], _ => rfl⟩
theorem D40 (P : Params) : ∃ d : FuncData, (Fun (KK P) "rise" "State.rise" s_State_rise (He.fAd (KK P) ("State", some "rise")) d) ∧ (Binds (KK P) d ["self"] []) := by
  obtain ⟨fd, F⟩ := He.DefD.funD (K := KK P) (d := dd40) (by kernel_rfl) (by kernel_rfl)
  have F : FunD (KK P) "rise" "State.rise" (defArgs s_State_rise) (defBody s_State_rise) (defScope s_State_rise) [] [] (He.fAd (KK P) ("State", some "rise")) fd := F
  have F0 : Fun (KK P) "rise" "State.rise" s_State_rise (He.fAd (KK P) ("State", some "rise")) fd := fun_of F
  exact ⟨fd, F0, Fun.binds F0 (ps := ["self"]) fun _ _ _ _ _ _ us hl => match us, hl with | [_], _ => rfl⟩
theorem D41 (P : Params) : ∃ d : FuncData, (Fun (KK P) "opening_state" "opening_state" s_opening_state (He.fAd (KK P) ("opening_state", none)) d) ∧ (Binds (KK P) d ["config", "side"] []) := by
  obtain ⟨fd, F⟩ := He.DefD.funD (K := KK P) (d := dd41) (by kernel_rfl) (by kernel_rfl)
  have F : FunD (KK P) "opening_state" "opening_state" (defArgs s_opening_state) (defBody s_opening_state) (defScope s_opening_state) [] [] (He.fAd (KK P) ("opening_state", none)) fd := F
  have F0 : Fun (KK P) "opening_state" "opening_state" s_opening_state (He.fAd (KK P) ("opening_state", none)) fd := fun_of F
  exact ⟨fd, F0, Fun.binds F0 (ps := ["config", "side"]) fun _ _ _ _ _ _ us hl => match us, hl with | [_, _], _ => rfl⟩
theorem D42 (P : Params) : ∃ d : FuncData, (Fun (KK P) "__init__" "Chain.__init__" s_Chain_init (He.fAd (KK P) ("Chain", some "__init__")) d) ∧ (Binds (KK P) d ["self", "side", "config", "notary"] []) := by
  obtain ⟨fd, F⟩ := He.DefD.funD (K := KK P) (d := dd42) (by kernel_rfl) (by kernel_rfl)
  have F : FunD (KK P) "__init__" "Chain.__init__" (defArgs s_Chain_init) (defBody s_Chain_init) (defScope s_Chain_init) [] [] (He.fAd (KK P) ("Chain", some "__init__")) fd := F
  have F0 : Fun (KK P) "__init__" "Chain.__init__" s_Chain_init (He.fAd (KK P) ("Chain", some "__init__")) fd := fun_of F
  exact ⟨fd, F0, Fun.binds F0 (ps := ["self", "side", "config", "notary"]) fun _ _ _ _ _ _ us hl => match us, hl with | [_, _, _, _], _ => rfl⟩
theorem D43 (P : Params) : ∃ d : FuncData, (Fun (KK P) "add" "Chain.add" s_Chain_add (He.fAd (KK P) ("Chain", some "add")) d) ∧ (Binds (KK P) d ["self", "number", "parent", "orders"] []) := by
  obtain ⟨fd, F⟩ := He.DefD.funD (K := KK P) (d := dd43) (by kernel_rfl) (by kernel_rfl)
  have F : FunD (KK P) "add" "Chain.add" (defArgs s_Chain_add) (defBody s_Chain_add) (defScope s_Chain_add) [] [] (He.fAd (KK P) ("Chain", some "add")) fd := F
  have F0 : Fun (KK P) "add" "Chain.add" s_Chain_add (He.fAd (KK P) ("Chain", some "add")) fd := fun_of F
  exact ⟨fd, F0, Fun.binds F0 (ps := ["self", "number", "parent", "orders"]) fun _ _ _ _ _ _ us hl => match us, hl with | [_, _, _, _], _ => rfl⟩
theorem D44 (P : Params) : ∃ d : FuncData, (Fun (KK P) "numbers" "Chain.numbers" s_Chain_numbers (He.fAd (KK P) ("Chain", some "numbers")) d) ∧ (Binds (KK P) d ["self"] []) := by
  obtain ⟨fd, F⟩ := He.DefD.funD (K := KK P) (d := dd44) (by kernel_rfl) (by kernel_rfl)
  have F : FunD (KK P) "numbers" "Chain.numbers" (defArgs s_Chain_numbers) (defBody s_Chain_numbers) (defScope s_Chain_numbers) [] [] (He.fAd (KK P) ("Chain", some "numbers")) fd := F
  have F0 : Fun (KK P) "numbers" "Chain.numbers" s_Chain_numbers (He.fAd (KK P) ("Chain", some "numbers")) fd := fun_of F
  exact ⟨fd, F0, Fun.binds F0 (ps := ["self"]) fun _ _ _ _ _ _ us hl => match us, hl with | [_], _ => rfl⟩
theorem D45 (P : Params) : ∃ d : FuncData, (Fun (KK P) "parent" "Chain.parent" s_Chain_parent (He.fAd (KK P) ("Chain", some "parent")) d) ∧ (Binds (KK P) d ["self", "number"] []) := by
  obtain ⟨fd, F⟩ := He.DefD.funD (K := KK P) (d := dd45) (by kernel_rfl) (by kernel_rfl)
  have F : FunD (KK P) "parent" "Chain.parent" (defArgs s_Chain_parent) (defBody s_Chain_parent) (defScope s_Chain_parent) [] [] (He.fAd (KK P) ("Chain", some "parent")) fd := F
  have F0 : Fun (KK P) "parent" "Chain.parent" s_Chain_parent (He.fAd (KK P) ("Chain", some "parent")) fd := fun_of F
  exact ⟨fd, F0, Fun.binds F0 (ps := ["self", "number"]) fun _ _ _ _ _ _ us hl => match us, hl with | [_, _], _ => rfl⟩
theorem D46 (P : Params) : ∃ d : FuncData, (Fun (KK P) "final" "Chain.final" s_Chain_final (He.fAd (KK P) ("Chain", some "final")) d) ∧ (Binds (KK P) d ["self"] []) := by
  obtain ⟨fd, F⟩ := He.DefD.funD (K := KK P) (d := dd46) (by kernel_rfl) (by kernel_rfl)
  have F : FunD (KK P) "final" "Chain.final" (defArgs s_Chain_final) (defBody s_Chain_final) (defScope s_Chain_final) [] [] (He.fAd (KK P) ("Chain", some "final")) fd := F
  have F0 : Fun (KK P) "final" "Chain.final" s_Chain_final (He.fAd (KK P) ("Chain", some "final")) fd := fun_of F
  exact ⟨fd, F0, Fun.binds F0 (ps := ["self"]) fun _ _ _ _ _ _ us hl => match us, hl with | [_], _ => rfl⟩
theorem D47 (P : Params) : ∃ d : FuncData, (Fun (KK P) "tips" "Chain.tips" s_Chain_tips (He.fAd (KK P) ("Chain", some "tips")) d) ∧ (Binds (KK P) d ["self"] []) := by
  obtain ⟨fd, F⟩ := He.DefD.funD (K := KK P) (d := dd47) (by kernel_rfl) (by kernel_rfl)
  have F : FunD (KK P) "tips" "Chain.tips" (defArgs s_Chain_tips) (defBody s_Chain_tips) (defScope s_Chain_tips) [] [] (He.fAd (KK P) ("Chain", some "tips")) fd := F
  have F0 : Fun (KK P) "tips" "Chain.tips" s_Chain_tips (He.fAd (KK P) ("Chain", some "tips")) fd := fun_of F
  exact ⟨fd, F0, Fun.binds F0 (ps := ["self"]) fun _ _ _ _ _ _ us hl => match us, hl with | [_], _ => rfl⟩
theorem D48 (P : Params) : ∃ d : FuncData, (Fun (KK P) "_check_block" "Chain._check_block" s_Chain_check_block (He.fAd (KK P) ("Chain", some "_check_block")) d) ∧ (Binds (KK P) d ["self", "number"] []) := by
  obtain ⟨fd, F⟩ := He.DefD.funD (K := KK P) (d := dd48) (by kernel_rfl) (by kernel_rfl)
  have F : FunD (KK P) "_check_block" "Chain._check_block" (defArgs s_Chain_check_block) (defBody s_Chain_check_block) (defScope s_Chain_check_block) [] [] (He.fAd (KK P) ("Chain", some "_check_block")) fd := F
  have F0 : Fun (KK P) "_check_block" "Chain._check_block" s_Chain_check_block (He.fAd (KK P) ("Chain", some "_check_block")) fd := fun_of F
  exact ⟨fd, F0, Fun.binds F0 (ps := ["self", "number"]) fun _ _ _ _ _ _ us hl => match us, hl with | [_, _], _ => rfl⟩
theorem D49 (P : Params) : ∃ d : FuncData, (Fun (KK P) "__init__" "Notary.__init__" s_Notary_init (He.fAd (KK P) ("Notary", some "__init__")) d) ∧ (Binds (KK P) d ["self"] []) := by
  obtain ⟨fd, F⟩ := He.DefD.funD (K := KK P) (d := dd49) (by kernel_rfl) (by kernel_rfl)
  have F : FunD (KK P) "__init__" "Notary.__init__" (defArgs s_Notary_init) (defBody s_Notary_init) (defScope s_Notary_init) [] [] (He.fAd (KK P) ("Notary", some "__init__")) fd := F
  have F0 : Fun (KK P) "__init__" "Notary.__init__" s_Notary_init (He.fAd (KK P) ("Notary", some "__init__")) fd := fun_of F
  exact ⟨fd, F0, Fun.binds F0 (ps := ["self"]) fun _ _ _ _ _ _ us hl => match us, hl with | [_], _ => rfl⟩
theorem D50 (P : Params) : ∃ d : FuncData, (Fun (KK P) "_law_pot" "_law_pot" s_L_pot (He.fAd (KK P) ("_law_pot", none)) d) ∧ (Binds (KK P) d ["script"] []) := by
  obtain ⟨fd, F⟩ := He.DefD.funD (K := KK P) (d := dd50) (by kernel_rfl) (by kernel_rfl)
  have F : FunD (KK P) "_law_pot" "_law_pot" (defArgs s_L_pot) (defBody s_L_pot) (defScope s_L_pot) [] [] (He.fAd (KK P) ("_law_pot", none)) fd := F
  have F0 : Fun (KK P) "_law_pot" "_law_pot" s_L_pot (He.fAd (KK P) ("_law_pot", none)) fd := fun_of F
  exact ⟨fd, F0, Fun.binds F0 (ps := ["script"]) fun _ _ _ _ _ _ us hl => match us, hl with | [_], _ => rfl⟩
theorem D51 (P : Params) : ∃ d : FuncData, (Fun (KK P) "_law_next" "_law_next" s_L_next (He.fAd (KK P) ("_law_next", none)) d) ∧ (Binds (KK P) d ["pot", "limit"] []) := by
  obtain ⟨fd, F⟩ := He.DefD.funD (K := KK P) (d := dd51) (by kernel_rfl) (by kernel_rfl)
  have F : FunD (KK P) "_law_next" "_law_next" (defArgs s_L_next) (defBody s_L_next) (defScope s_L_next) [] [] (He.fAd (KK P) ("_law_next", none)) fd := F
  have F0 : Fun (KK P) "_law_next" "_law_next" s_L_next (He.fAd (KK P) ("_law_next", none)) fd := fun_of F
  exact ⟨fd, F0, Fun.binds F0 (ps := ["pot", "limit"]) fun _ _ _ _ _ _ us hl => match us, hl with | [_, _], _ => rfl⟩
theorem D52 (P : Params) : ∃ d : FuncData, (Fun (KK P) "_law_set" "_law_set" s_L_set (He.fAd (KK P) ("_law_set", none)) d) ∧ (Binds (KK P) d ["pot", "most"] []) := by
  obtain ⟨fd, F⟩ := He.DefD.funD (K := KK P) (d := dd52) (by kernel_rfl) (by kernel_rfl)
  have F : FunD (KK P) "_law_set" "_law_set" (defArgs s_L_set) (defBody s_L_set) (defScope s_L_set) [] [] (He.fAd (KK P) ("_law_set", none)) fd := F
  have F0 : Fun (KK P) "_law_set" "_law_set" s_L_set (He.fAd (KK P) ("_law_set", none)) fd := fun_of F
  exact ⟨fd, F0, Fun.binds F0 (ps := ["pot", "most"]) fun _ _ _ _ _ _ us hl => match us, hl with | [_, _], _ => rfl⟩
theorem D53 (P : Params) : ∃ d : FuncData, (Fun (KK P) "_law_config" "_law_config" s_L_config (He.fAd (KK P) ("_law_config", none)) d) ∧ (Binds (KK P) d ["pot"] []) := by
  obtain ⟨fd, F⟩ := He.DefD.funD (K := KK P) (d := dd53) (by kernel_rfl) (by kernel_rfl)
  have F : FunD (KK P) "_law_config" "_law_config" (defArgs s_L_config) (defBody s_L_config) (defScope s_L_config) [] [] (He.fAd (KK P) ("_law_config", none)) fd := F
  have F0 : Fun (KK P) "_law_config" "_law_config" s_L_config (He.fAd (KK P) ("_law_config", none)) fd := fun_of F
  exact ⟨fd, F0, Fun.binds F0 (ps := ["pot"]) fun _ _ _ _ _ _ us hl => match us, hl with | [_], _ => rfl⟩
theorem D54 (P : Params) : ∃ d : FuncData, (Fun (KK P) "_law_made" "_law_made" s_L_made (He.fAd (KK P) ("_law_made", none)) d) ∧ (Binds (KK P) d ["parts"] []) := by
  obtain ⟨fd, F⟩ := He.DefD.funD (K := KK P) (d := dd54) (by kernel_rfl) (by kernel_rfl)
  have F : FunD (KK P) "_law_made" "_law_made" (defArgs s_L_made) (defBody s_L_made) (defScope s_L_made) [] [] (He.fAd (KK P) ("_law_made", none)) fd := F
  have F0 : Fun (KK P) "_law_made" "_law_made" s_L_made (He.fAd (KK P) ("_law_made", none)) fd := fun_of F
  exact ⟨fd, F0, Fun.binds F0 (ps := ["parts"]) fun _ _ _ _ _ _ us hl => match us, hl with | [_], _ => rfl⟩
theorem D55 (P : Params) : ∃ d : FuncData, (Fun (KK P) "_law_line" "_law_line" s_L_line (He.fAd (KK P) ("_law_line", none)) d) ∧ (Binds (KK P) d ["chain", "number"] []) := by
  obtain ⟨fd, F⟩ := He.DefD.funD (K := KK P) (d := dd55) (by kernel_rfl) (by kernel_rfl)
  have F : FunD (KK P) "_law_line" "_law_line" (defArgs s_L_line) (defBody s_L_line) (defScope s_L_line) [] [] (He.fAd (KK P) ("_law_line", none)) fd := F
  have F0 : Fun (KK P) "_law_line" "_law_line" s_L_line (He.fAd (KK P) ("_law_line", none)) fd := fun_of F
  exact ⟨fd, F0, Fun.binds F0 (ps := ["chain", "number"]) fun _ _ _ _ _ _ us hl => match us, hl with | [_, _], _ => rfl⟩
theorem D56 (P : Params) : ∃ d : FuncData, (Fun (KK P) "_law_deep" "_law_deep" s_L_deep (He.fAd (KK P) ("_law_deep", none)) d) ∧ (Binds (KK P) d ["chain", "depth"] []) := by
  obtain ⟨fd, F⟩ := He.DefD.funD (K := KK P) (d := dd56) (by kernel_rfl) (by kernel_rfl)
  have F : FunD (KK P) "_law_deep" "_law_deep" (defArgs s_L_deep) (defBody s_L_deep) (defScope s_L_deep) [] [] (He.fAd (KK P) ("_law_deep", none)) fd := F
  have F0 : Fun (KK P) "_law_deep" "_law_deep" s_L_deep (He.fAd (KK P) ("_law_deep", none)) fd := fun_of F
  exact ⟨fd, F0, Fun.binds F0 (ps := ["chain", "depth"]) fun _ _ _ _ _ _ us hl => match us, hl with | [_, _], _ => rfl⟩
theorem D57 (P : Params) : ∃ d : FuncData, (Fun (KK P) "law" "law" s_law (He.fAd (KK P) ("law", none)) d) ∧ (Binds (KK P) d ["script"] []) ∧ (∀ (s : Shared) (v : Value), BindsTo s d ⟨[v], []⟩ [("script", v)]) := by
  obtain ⟨fd, F⟩ := He.DefD.funD (K := KK P) (d := dd57) (by kernel_rfl) (by kernel_rfl)
  have F : FunD (KK P) "law" "law" (defArgs s_law) (defBody s_law) (defScope s_law) [] [] (He.fAd (KK P) ("law", none)) fd := F
  have F0 : Fun (KK P) "law" "law" s_law (He.fAd (KK P) ("law", none)) fd := fun_of F
  exact ⟨fd, F0, Fun.binds F0 (ps := ["script"]) fun _ _ _ _ _ _ us hl => match us, hl with | [_], _ => rfl, fun s v => FunD.bindsA (ps := ["script"]) F (fun _ _ _ _ _ _ us hl => match us, hl with | [_], _ => rfl) s [v] rfl⟩
section
variable (P : Params) {h : Heap} {mg : Str → Option Value} (X : (KK P).In h) (G : h.Ns mainGlobals mg)
include X G in
theorem e140 : ∃ t, mg "ACCOUNT_LENGTH" = some (.int 20 t) := by have h := (show ((He.Fa.int "ACCOUNT_LENGTH" 20).ok (KK P)) = true from x140 P); exact He.int_ok X G h
include X G in
theorem e141 : ∃ t, mg "BARRED_CODE" = some (.int 37 t) := by have h := (show ((He.Fa.int "BARRED_CODE" 37).ok (KK P)) = true from x141 P); exact He.int_ok X G h
include X G in
theorem e142 : ∃ t, mg "FIRST" = some (.int 0 t) := by have h := (show ((He.Fa.int "FIRST" 0).ok (KK P)) = true from x142 P); exact He.int_ok X G h
include X G in
theorem e143 : ∃ t, mg "FIRST_CODE" = some (.int 32 t) := by have h := (show ((He.Fa.int "FIRST_CODE" 32).ok (KK P)) = true from x143 P); exact He.int_ok X G h
include X G in
theorem e144 : ∃ t, mg "LAST_CODE" = some (.int 126 t) := by have h := (show ((He.Fa.int "LAST_CODE" 126).ok (KK P)) = true from x144 P); exact He.int_ok X G h
include X G in
theorem e145 : ∃ t, mg "MOST_IN_BUNDLE" = some (.int 8 t) := by have h := (show ((He.Fa.int "MOST_IN_BUNDLE" 8).ok (KK P)) = true from x145 P); exact He.int_ok X G h
include X G in
theorem e148 : ∃ t, mg "TOKEN_LENGTH" = some (.int 12 t) := by have h := (show ((He.Fa.int "TOKEN_LENGTH" 12).ok (KK P)) = true from x148 P); exact He.int_ok X G h
set_option maxHeartbeats 0 in
noncomputable def txt_of : Txt (KK P) mg where
  f_Blocks_init := (He.fAd (KK P) ("Blocks", some "__init__"))
  d_Blocks_init := (D0 P).choose
  F_Blocks_init := (D0 P).choose_spec.1
  b_Blocks_init := (D0 P).choose_spec.2
  f_Blocks_has := (He.fAd (KK P) ("Blocks", some "has"))
  d_Blocks_has := (D1 P).choose
  F_Blocks_has := (D1 P).choose_spec.1
  b_Blocks_has := (D1 P).choose_spec.2
  f_Blocks_numbers := (He.fAd (KK P) ("Blocks", some "numbers"))
  d_Blocks_numbers := (D2 P).choose
  F_Blocks_numbers := (D2 P).choose_spec.1
  b_Blocks_numbers := (D2 P).choose_spec.2
  f_Blocks_parent := (He.fAd (KK P) ("Blocks", some "parent"))
  d_Blocks_parent := (D3 P).choose
  F_Blocks_parent := (D3 P).choose_spec.1
  b_Blocks_parent := (D3 P).choose_spec.2
  f_Blocks_place := (He.fAd (KK P) ("Blocks", some "place"))
  d_Blocks_place := (D4 P).choose
  F_Blocks_place := (D4 P).choose_spec.1
  b_Blocks_place := (D4 P).choose_spec.2
  f_Blocks_final := (He.fAd (KK P) ("Blocks", some "final"))
  d_Blocks_final := (D5 P).choose
  F_Blocks_final := (D5 P).choose_spec.1
  b_Blocks_final := (D5 P).choose_spec.2
  f_Blocks_is_live := (He.fAd (KK P) ("Blocks", some "is_live"))
  d_Blocks_is_live := (D6 P).choose
  F_Blocks_is_live := (D6 P).choose_spec.1
  b_Blocks_is_live := (D6 P).choose_spec.2
  f_Blocks_live_tips := (He.fAd (KK P) ("Blocks", some "live_tips"))
  d_Blocks_live_tips := (D7 P).choose
  F_Blocks_live_tips := (D7 P).choose_spec.1
  b_Blocks_live_tips := (D7 P).choose_spec.2
  f_Blocks_below := (He.fAd (KK P) ("Blocks", some "_below"))
  d_Blocks_below := (D8 P).choose
  F_Blocks_below := (D8 P).choose_spec.1
  b_Blocks_below := (D8 P).choose_spec.2
  f_is_integer := (He.fAd (KK P) ("is_integer", none))
  d_is_integer := (D9 P).choose
  F_is_integer := (D9 P).choose_spec.1
  b_is_integer := (D9 P).choose_spec.2
  f_is_at_least := (He.fAd (KK P) ("is_at_least", none))
  d_is_at_least := (D10 P).choose
  F_is_at_least := (D10 P).choose_spec.1
  b_is_at_least := (D10 P).choose_spec.2
  f_is_text := (He.fAd (KK P) ("is_text", none))
  d_is_text := (D11 P).choose
  F_is_text := (D11 P).choose_spec.1
  b_is_text := (D11 P).choose_spec.2
  f_is_short_text := (He.fAd (KK P) ("is_short_text", none))
  d_is_short_text := (D12 P).choose
  F_is_short_text := (D12 P).choose_spec.1
  b_is_short_text := (D12 P).choose_spec.2
  f_is_account := (He.fAd (KK P) ("is_account", none))
  d_is_account := (D13 P).choose
  F_is_account := (D13 P).choose_spec.1
  b_is_account := (D13 P).choose_spec.2
  f_is_side := (He.fAd (KK P) ("is_side", none))
  d_is_side := (D14 P).choose
  F_is_side := (D14 P).choose_spec.1
  b_is_side := (D14 P).choose_spec.2
  f_is_set := (He.fAd (KK P) ("is_set", none))
  d_is_set := (D15 P).choose
  F_is_set := (D15 P).choose_spec.1
  b_is_set := (D15 P).choose_spec.2
  f_is_pair := (He.fAd (KK P) ("is_pair", none))
  d_is_pair := (D16 P).choose
  F_is_pair := (D16 P).choose_spec.1
  b_is_pair := (D16 P).choose_spec.2
  f_Config_init := (He.fAd (KK P) ("Config", some "__init__"))
  d_Config_init := (D17 P).choose
  F_Config_init := (D17 P).choose_spec.1
  kb7_Config_init := (D17 P).choose_spec.2
  f_Config_check_token := (He.fAd (KK P) ("Config", some "check_token"))
  d_Config_check_token := (D18 P).choose
  F_Config_check_token := (D18 P).choose_spec.1
  b_Config_check_token := (D18 P).choose_spec.2
  f_Config_home := (He.fAd (KK P) ("Config", some "home"))
  d_Config_home := (D19 P).choose
  F_Config_home := (D19 P).choose_spec.1
  b_Config_home := (D19 P).choose_spec.2
  f_Config_scale := (He.fAd (KK P) ("Config", some "scale"))
  d_Config_scale := (D20 P).choose
  F_Config_scale := (D20 P).choose_spec.1
  b_Config_scale := (D20 P).choose_spec.2
  f_Config_opening := (He.fAd (KK P) ("Config", some "opening"))
  d_Config_opening := (D21 P).choose
  F_Config_opening := (D21 P).choose_spec.1
  b_Config_opening := (D21 P).choose_spec.2
  f_Config_guards := (He.fAd (KK P) ("Config", some "guards"))
  d_Config_guards := (D22 P).choose
  F_Config_guards := (D22 P).choose_spec.1
  b_Config_guards := (D22 P).choose_spec.2
  f_Config_depth := (He.fAd (KK P) ("Config", some "depth"))
  d_Config_depth := (D23 P).choose
  F_Config_depth := (D23 P).choose_spec.1
  b_Config_depth := (D23 P).choose_spec.2
  f_Config_window := (He.fAd (KK P) ("Config", some "window"))
  d_Config_window := (D24 P).choose
  F_Config_window := (D24 P).choose_spec.1
  b_Config_window := (D24 P).choose_spec.2
  f_Config_delay := (He.fAd (KK P) ("Config", some "delay"))
  d_Config_delay := (D25 P).choose
  F_Config_delay := (D25 P).choose_spec.1
  b_Config_delay := (D25 P).choose_spec.2
  f_Config_bundle := (He.fAd (KK P) ("Config", some "bundle"))
  d_Config_bundle := (D26 P).choose
  F_Config_bundle := (D26 P).choose_spec.1
  b_Config_bundle := (D26 P).choose_spec.2
  f_check_list := (He.fAd (KK P) ("check_list", none))
  d_check_list := (D27 P).choose
  F_check_list := (D27 P).choose_spec.1
  b_check_list := (D27 P).choose_spec.2
  f_check_least := (He.fAd (KK P) ("check_least", none))
  d_check_least := (D28 P).choose
  F_check_least := (D28 P).choose_spec.1
  b_check_least := (D28 P).choose_spec.2
  f_check_token_row := (He.fAd (KK P) ("check_token_row", none))
  d_check_token_row := (D29 P).choose
  F_check_token_row := (D29 P).choose_spec.1
  b_check_token_row := (D29 P).choose_spec.2
  f_check_balance_row := (He.fAd (KK P) ("check_balance_row", none))
  d_check_balance_row := (D30 P).choose
  F_check_balance_row := (D30 P).choose_spec.1
  b_check_balance_row := (D30 P).choose_spec.2
  f_next_height := (He.fAd (KK P) ("next_height", none))
  d_next_height := (D31 P).choose
  F_next_height := (D31 P).choose_spec.1
  b_next_height := (D31 P).choose_spec.2
  f_after_block := (He.fAd (KK P) ("after_block", none))
  d_after_block := (D32 P).choose
  F_after_block := (D32 P).choose_spec.1
  b_after_block := (D32 P).choose_spec.2
  f_Sheet_init := (He.fAd (KK P) ("Sheet", some "__init__"))
  d_Sheet_init := (D33 P).choose
  F_Sheet_init := (D33 P).choose_spec.1
  b_Sheet_init := (D33 P).choose_spec.2
  f_Sheet_copy := (He.fAd (KK P) ("Sheet", some "copy"))
  d_Sheet_copy := (D34 P).choose
  F_Sheet_copy := (D34 P).choose_spec.1
  b_Sheet_copy := (D34 P).choose_spec.2
  f_copied := (He.fAd (KK P) ("copied", none))
  d_copied := (D35 P).choose
  F_copied := (D35 P).choose_spec.1
  b_copied := (D35 P).choose_spec.2
  f_held := (He.fAd (KK P) ("held", none))
  d_held := (D36 P).choose
  F_held := (D36 P).choose_spec.1
  b_held := (D36 P).choose_spec.2
  f_put := (He.fAd (KK P) ("put", none))
  d_put := (D37 P).choose
  F_put := (D37 P).choose_spec.1
  b_put := (D37 P).choose_spec.2
  f_State_init := (He.fAd (KK P) ("State", some "__init__"))
  d_State_init := (D38 P).choose
  F_State_init := (D38 P).choose_spec.1
  b_State_init := (D38 P).choose_spec.2
  f_State_copy := (He.fAd (KK P) ("State", some "copy"))
  d_State_copy := (D39 P).choose
  F_State_copy := (D39 P).choose_spec.1
  b_State_copy := (D39 P).choose_spec.2
  f_State_rise := (He.fAd (KK P) ("State", some "rise"))
  d_State_rise := (D40 P).choose
  F_State_rise := (D40 P).choose_spec.1
  b_State_rise := (D40 P).choose_spec.2
  f_opening_state := (He.fAd (KK P) ("opening_state", none))
  d_opening_state := (D41 P).choose
  F_opening_state := (D41 P).choose_spec.1
  b_opening_state := (D41 P).choose_spec.2
  f_Chain_init := (He.fAd (KK P) ("Chain", some "__init__"))
  d_Chain_init := (D42 P).choose
  F_Chain_init := (D42 P).choose_spec.1
  b_Chain_init := (D42 P).choose_spec.2
  f_Chain_add := (He.fAd (KK P) ("Chain", some "add"))
  d_Chain_add := (D43 P).choose
  F_Chain_add := (D43 P).choose_spec.1
  b_Chain_add := (D43 P).choose_spec.2
  f_Chain_numbers := (He.fAd (KK P) ("Chain", some "numbers"))
  d_Chain_numbers := (D44 P).choose
  F_Chain_numbers := (D44 P).choose_spec.1
  b_Chain_numbers := (D44 P).choose_spec.2
  f_Chain_parent := (He.fAd (KK P) ("Chain", some "parent"))
  d_Chain_parent := (D45 P).choose
  F_Chain_parent := (D45 P).choose_spec.1
  b_Chain_parent := (D45 P).choose_spec.2
  f_Chain_final := (He.fAd (KK P) ("Chain", some "final"))
  d_Chain_final := (D46 P).choose
  F_Chain_final := (D46 P).choose_spec.1
  b_Chain_final := (D46 P).choose_spec.2
  f_Chain_tips := (He.fAd (KK P) ("Chain", some "tips"))
  d_Chain_tips := (D47 P).choose
  F_Chain_tips := (D47 P).choose_spec.1
  b_Chain_tips := (D47 P).choose_spec.2
  f_Chain_check_block := (He.fAd (KK P) ("Chain", some "_check_block"))
  d_Chain_check_block := (D48 P).choose
  F_Chain_check_block := (D48 P).choose_spec.1
  b_Chain_check_block := (D48 P).choose_spec.2
  f_Notary_init := (He.fAd (KK P) ("Notary", some "__init__"))
  d_Notary_init := (D49 P).choose
  F_Notary_init := (D49 P).choose_spec.1
  b_Notary_init := (D49 P).choose_spec.2
  f_L_pot := (He.fAd (KK P) ("_law_pot", none))
  d_L_pot := (D50 P).choose
  F_L_pot := (D50 P).choose_spec.1
  b_L_pot := (D50 P).choose_spec.2
  f_L_next := (He.fAd (KK P) ("_law_next", none))
  d_L_next := (D51 P).choose
  F_L_next := (D51 P).choose_spec.1
  b_L_next := (D51 P).choose_spec.2
  f_L_set := (He.fAd (KK P) ("_law_set", none))
  d_L_set := (D52 P).choose
  F_L_set := (D52 P).choose_spec.1
  b_L_set := (D52 P).choose_spec.2
  f_L_config := (He.fAd (KK P) ("_law_config", none))
  d_L_config := (D53 P).choose
  F_L_config := (D53 P).choose_spec.1
  b_L_config := (D53 P).choose_spec.2
  f_L_made := (He.fAd (KK P) ("_law_made", none))
  d_L_made := (D54 P).choose
  F_L_made := (D54 P).choose_spec.1
  b_L_made := (D54 P).choose_spec.2
  f_L_line := (He.fAd (KK P) ("_law_line", none))
  d_L_line := (D55 P).choose
  F_L_line := (D55 P).choose_spec.1
  b_L_line := (D55 P).choose_spec.2
  f_L_deep := (He.fAd (KK P) ("_law_deep", none))
  d_L_deep := (D56 P).choose
  F_L_deep := (D56 P).choose_spec.1
  b_L_deep := (D56 P).choose_spec.2
  f_law := (He.fAd (KK P) ("law", none))
  d_law := (D57 P).choose
  F_law := (D57 P).choose_spec.1
  b_law := (D57 P).choose_spec.2.1
  g_is_integer := by have h := (show ((He.Fa.glo "is_integer").ok (KK P)) = true from x0 P); exact He.glo_ok X G h
  g_is_at_least := by have h := (show ((He.Fa.glo "is_at_least").ok (KK P)) = true from x1 P); exact He.glo_ok X G h
  g_is_text := by have h := (show ((He.Fa.glo "is_text").ok (KK P)) = true from x2 P); exact He.glo_ok X G h
  g_is_short_text := by have h := (show ((He.Fa.glo "is_short_text").ok (KK P)) = true from x3 P); exact He.glo_ok X G h
  g_is_account := by have h := (show ((He.Fa.glo "is_account").ok (KK P)) = true from x4 P); exact He.glo_ok X G h
  g_is_side := by have h := (show ((He.Fa.glo "is_side").ok (KK P)) = true from x5 P); exact He.glo_ok X G h
  g_is_set := by have h := (show ((He.Fa.glo "is_set").ok (KK P)) = true from x6 P); exact He.glo_ok X G h
  g_is_pair := by have h := (show ((He.Fa.glo "is_pair").ok (KK P)) = true from x7 P); exact He.glo_ok X G h
  g_check_list := by have h := (show ((He.Fa.glo "check_list").ok (KK P)) = true from x8 P); exact He.glo_ok X G h
  g_check_least := by have h := (show ((He.Fa.glo "check_least").ok (KK P)) = true from x9 P); exact He.glo_ok X G h
  g_check_token_row := by have h := (show ((He.Fa.glo "check_token_row").ok (KK P)) = true from x10 P); exact He.glo_ok X G h
  g_check_balance_row := by have h := (show ((He.Fa.glo "check_balance_row").ok (KK P)) = true from x11 P); exact He.glo_ok X G h
  g_next_height := by have h := (show ((He.Fa.glo "next_height").ok (KK P)) = true from x12 P); exact He.glo_ok X G h
  g_after_block := by have h := (show ((He.Fa.glo "after_block").ok (KK P)) = true from x13 P); exact He.glo_ok X G h
  g_copied := by have h := (show ((He.Fa.glo "copied").ok (KK P)) = true from x14 P); exact He.glo_ok X G h
  g_held := by have h := (show ((He.Fa.glo "held").ok (KK P)) = true from x15 P); exact He.glo_ok X G h
  g_put := by have h := (show ((He.Fa.glo "put").ok (KK P)) = true from x16 P); exact He.glo_ok X G h
  g_opening_state := by have h := (show ((He.Fa.glo "opening_state").ok (KK P)) = true from x17 P); exact He.glo_ok X G h
  g_L_pot := by have h := (show ((He.Fa.glo "_law_pot").ok (KK P)) = true from x18 P); exact He.glo_ok X G h
  g_L_next := by have h := (show ((He.Fa.glo "_law_next").ok (KK P)) = true from x19 P); exact He.glo_ok X G h
  g_L_set := by have h := (show ((He.Fa.glo "_law_set").ok (KK P)) = true from x20 P); exact He.glo_ok X G h
  g_L_config := by have h := (show ((He.Fa.glo "_law_config").ok (KK P)) = true from x21 P); exact He.glo_ok X G h
  g_L_made := by have h := (show ((He.Fa.glo "_law_made").ok (KK P)) = true from x22 P); exact He.glo_ok X G h
  g_L_line := by have h := (show ((He.Fa.glo "_law_line").ok (KK P)) = true from x23 P); exact He.glo_ok X G h
  g_L_deep := by have h := (show ((He.Fa.glo "_law_deep").ok (KK P)) = true from x24 P); exact He.glo_ok X G h
  g_law := by have h := (show ((He.Fa.glo "law").ok (KK P)) = true from x25 P); exact He.glo_ok X G h
  g_Blocks := by have h := (show ((He.Fa.glo "Blocks").ok (KK P)) = true from x26 P); exact He.glo_ok X G h
  cl_Blocks := by have h := (show ((He.Fa.cls "Blocks").ok (KK P)) = true from x27 P); exact He.cls_ok h
  mk_Blocks := by have h := (show ((He.Fa.mkr "Blocks").ok (KK P)) = true from x28 P); exact He.mkr_ok h
  m_Blocks_has := by have h := (show ((He.Fa.meth "Blocks" "has").ok (KK P)) = true from x29 P); exact He.meth_ok h
  m_Blocks_numbers := by have h := (show ((He.Fa.meth "Blocks" "numbers").ok (KK P)) = true from x30 P); exact He.meth_ok h
  m_Blocks_parent := by have h := (show ((He.Fa.meth "Blocks" "parent").ok (KK P)) = true from x31 P); exact He.meth_ok h
  m_Blocks_place := by have h := (show ((He.Fa.meth "Blocks" "place").ok (KK P)) = true from x32 P); exact He.meth_ok h
  m_Blocks_final := by have h := (show ((He.Fa.meth "Blocks" "final").ok (KK P)) = true from x33 P); exact He.meth_ok h
  m_Blocks_is_live := by have h := (show ((He.Fa.meth "Blocks" "is_live").ok (KK P)) = true from x34 P); exact He.meth_ok h
  m_Blocks_live_tips := by have h := (show ((He.Fa.meth "Blocks" "live_tips").ok (KK P)) = true from x35 P); exact He.meth_ok h
  m_Blocks_below := by have h := (show ((He.Fa.meth "Blocks" "_below").ok (KK P)) = true from x36 P); exact He.meth_ok h
  n_Blocks_depth := by have h := (show ((He.Fa.noat "Blocks" "_depth").ok (KK P)) = true from x37 P); exact He.noat_ok h
  n_Blocks_parents := by have h := (show ((He.Fa.noat "Blocks" "_parents").ok (KK P)) = true from x38 P); exact He.noat_ok h
  n_Blocks_heights := by have h := (show ((He.Fa.noat "Blocks" "_heights").ok (KK P)) = true from x39 P); exact He.noat_ok h
  n_Blocks_tips := by have h := (show ((He.Fa.noat "Blocks" "_tips").ok (KK P)) = true from x40 P); exact He.noat_ok h
  n_Blocks_final := by have h := (show ((He.Fa.noat "Blocks" "_final").ok (KK P)) = true from x41 P); exact He.noat_ok h
  g_BridgeError := by have h := (show ((He.Fa.glo "BridgeError").ok (KK P)) = true from x42 P); exact He.glo_ok X G h
  xe_BridgeError := by have h := (show (decide (PySem.W.excIn (KK P) (He.ga (KK P) "BridgeError") [.type "ValueError", .type "Exception", .type "BaseException", .type "object"] "ValueError.__new__" = true)) = true from x43 P); exact of_decide_eq_true h
  ke_BridgeError := by have h := (show (decide (PySem.W.keepIn (KK P) (.ref (He.ga (KK P) "BridgeError")) = true)) = true from x44 P); exact of_decide_eq_true h
  be_BridgeError := by have h := (show (decide (PySem.W.subIn (KK P) (.ref (He.ga (KK P) "BridgeError")) (.type "BaseException") = some true)) = true from x45 P); exact of_decide_eq_true h
  te_BridgeError := by have h := (show (decide (PySem.W.typeIn (KK P) (.ref (He.ga (KK P) "BridgeError")) = some (.type "type"))) = true from x46 P); exact of_decide_eq_true h
  ie_BridgeError := by have h := (show (decide (PySem.W.isClsIn (KK P) (He.ga (KK P) "BridgeError") = true)) = true from x47 P); exact of_decide_eq_true h
  se_BridgeError := by have h := (show (decide (PySem.W.subIn (KK P) (.ref (He.ga (KK P) "BridgeError")) (.ref (He.ga (KK P) "BridgeError")) = some true)) = true from x48 P); exact of_decide_eq_true h
  hd_BridgeError := by have h := (show (decide (PySem.W.hasDictIn (KK P) (He.ga (KK P) "BridgeError") = true)) = true from x49 P); exact of_decide_eq_true h
  g_UnknownParent := by have h := (show ((He.Fa.glo "UnknownParent").ok (KK P)) = true from x50 P); exact He.glo_ok X G h
  xe_UnknownParent := by have h := (show (decide (PySem.W.excIn (KK P) (He.ga (KK P) "UnknownParent") [.type "ValueError", .type "Exception", .type "BaseException", .type "object"] "ValueError.__new__" = true)) = true from x51 P); exact of_decide_eq_true h
  ke_UnknownParent := by have h := (show (decide (PySem.W.keepIn (KK P) (.ref (He.ga (KK P) "UnknownParent")) = true)) = true from x52 P); exact of_decide_eq_true h
  be_UnknownParent := by have h := (show (decide (PySem.W.subIn (KK P) (.ref (He.ga (KK P) "UnknownParent")) (.type "BaseException") = some true)) = true from x53 P); exact of_decide_eq_true h
  te_UnknownParent := by have h := (show (decide (PySem.W.typeIn (KK P) (.ref (He.ga (KK P) "UnknownParent")) = some (.type "type"))) = true from x54 P); exact of_decide_eq_true h
  ie_UnknownParent := by have h := (show (decide (PySem.W.isClsIn (KK P) (He.ga (KK P) "UnknownParent") = true)) = true from x55 P); exact of_decide_eq_true h
  se_UnknownParent := by have h := (show (decide (PySem.W.subIn (KK P) (.ref (He.ga (KK P) "UnknownParent")) (.ref (He.ga (KK P) "UnknownParent")) = some true)) = true from x56 P); exact of_decide_eq_true h
  ue_UnknownParent := by have h := (show (decide (PySem.W.subIn (KK P) (.ref (He.ga (KK P) "UnknownParent")) (.ref (He.ga (KK P) "BridgeError")) = some true)) = true from x57 P); exact of_decide_eq_true h
  g_DuplicateBlock := by have h := (show ((He.Fa.glo "DuplicateBlock").ok (KK P)) = true from x58 P); exact He.glo_ok X G h
  xe_DuplicateBlock := by have h := (show (decide (PySem.W.excIn (KK P) (He.ga (KK P) "DuplicateBlock") [.type "ValueError", .type "Exception", .type "BaseException", .type "object"] "ValueError.__new__" = true)) = true from x59 P); exact of_decide_eq_true h
  ke_DuplicateBlock := by have h := (show (decide (PySem.W.keepIn (KK P) (.ref (He.ga (KK P) "DuplicateBlock")) = true)) = true from x60 P); exact of_decide_eq_true h
  be_DuplicateBlock := by have h := (show (decide (PySem.W.subIn (KK P) (.ref (He.ga (KK P) "DuplicateBlock")) (.type "BaseException") = some true)) = true from x61 P); exact of_decide_eq_true h
  te_DuplicateBlock := by have h := (show (decide (PySem.W.typeIn (KK P) (.ref (He.ga (KK P) "DuplicateBlock")) = some (.type "type"))) = true from x62 P); exact of_decide_eq_true h
  ie_DuplicateBlock := by have h := (show (decide (PySem.W.isClsIn (KK P) (He.ga (KK P) "DuplicateBlock") = true)) = true from x63 P); exact of_decide_eq_true h
  se_DuplicateBlock := by have h := (show (decide (PySem.W.subIn (KK P) (.ref (He.ga (KK P) "DuplicateBlock")) (.ref (He.ga (KK P) "DuplicateBlock")) = some true)) = true from x64 P); exact of_decide_eq_true h
  ue_DuplicateBlock := by have h := (show (decide (PySem.W.subIn (KK P) (.ref (He.ga (KK P) "DuplicateBlock")) (.ref (He.ga (KK P) "BridgeError")) = some true)) = true from x65 P); exact of_decide_eq_true h
  g_ConflictsWithFinal := by have h := (show ((He.Fa.glo "ConflictsWithFinal").ok (KK P)) = true from x66 P); exact He.glo_ok X G h
  xe_ConflictsWithFinal := by have h := (show (decide (PySem.W.excIn (KK P) (He.ga (KK P) "ConflictsWithFinal") [.type "ValueError", .type "Exception", .type "BaseException", .type "object"] "ValueError.__new__" = true)) = true from x67 P); exact of_decide_eq_true h
  ke_ConflictsWithFinal := by have h := (show (decide (PySem.W.keepIn (KK P) (.ref (He.ga (KK P) "ConflictsWithFinal")) = true)) = true from x68 P); exact of_decide_eq_true h
  be_ConflictsWithFinal := by have h := (show (decide (PySem.W.subIn (KK P) (.ref (He.ga (KK P) "ConflictsWithFinal")) (.type "BaseException") = some true)) = true from x69 P); exact of_decide_eq_true h
  te_ConflictsWithFinal := by have h := (show (decide (PySem.W.typeIn (KK P) (.ref (He.ga (KK P) "ConflictsWithFinal")) = some (.type "type"))) = true from x70 P); exact of_decide_eq_true h
  ie_ConflictsWithFinal := by have h := (show (decide (PySem.W.isClsIn (KK P) (He.ga (KK P) "ConflictsWithFinal") = true)) = true from x71 P); exact of_decide_eq_true h
  se_ConflictsWithFinal := by have h := (show (decide (PySem.W.subIn (KK P) (.ref (He.ga (KK P) "ConflictsWithFinal")) (.ref (He.ga (KK P) "ConflictsWithFinal")) = some true)) = true from x72 P); exact of_decide_eq_true h
  ue_ConflictsWithFinal := by have h := (show (decide (PySem.W.subIn (KK P) (.ref (He.ga (KK P) "ConflictsWithFinal")) (.ref (He.ga (KK P) "BridgeError")) = some true)) = true from x73 P); exact of_decide_eq_true h
  g_Config := by have h := (show ((He.Fa.glo "Config").ok (KK P)) = true from x74 P); exact He.glo_ok X G h
  cl_Config := by have h := (show ((He.Fa.cls "Config").ok (KK P)) = true from x75 P); exact He.cls_ok h
  mk_Config := by have h := (show ((He.Fa.mkr "Config").ok (KK P)) = true from x76 P); exact He.mkr_ok h
  m_Config_check_token := by have h := (show ((He.Fa.meth "Config" "check_token").ok (KK P)) = true from x77 P); exact He.meth_ok h
  m_Config_home := by have h := (show ((He.Fa.meth "Config" "home").ok (KK P)) = true from x78 P); exact He.meth_ok h
  m_Config_scale := by have h := (show ((He.Fa.meth "Config" "scale").ok (KK P)) = true from x79 P); exact He.meth_ok h
  m_Config_opening := by have h := (show ((He.Fa.meth "Config" "opening").ok (KK P)) = true from x80 P); exact He.meth_ok h
  m_Config_guards := by have h := (show ((He.Fa.meth "Config" "guards").ok (KK P)) = true from x81 P); exact He.meth_ok h
  m_Config_depth := by have h := (show ((He.Fa.meth "Config" "depth").ok (KK P)) = true from x82 P); exact He.meth_ok h
  m_Config_window := by have h := (show ((He.Fa.meth "Config" "window").ok (KK P)) = true from x83 P); exact He.meth_ok h
  m_Config_delay := by have h := (show ((He.Fa.meth "Config" "delay").ok (KK P)) = true from x84 P); exact He.meth_ok h
  m_Config_bundle := by have h := (show ((He.Fa.meth "Config" "bundle").ok (KK P)) = true from x85 P); exact He.meth_ok h
  n_Config_tokens := by have h := (show ((He.Fa.noat "Config" "_tokens").ok (KK P)) = true from x86 P); exact He.noat_ok h
  n_Config_balances := by have h := (show ((He.Fa.noat "Config" "_balances").ok (KK P)) = true from x87 P); exact He.noat_ok h
  n_Config_guards := by have h := (show ((He.Fa.noat "Config" "_guards").ok (KK P)) = true from x88 P); exact He.noat_ok h
  n_Config_depth := by have h := (show ((He.Fa.noat "Config" "_depth").ok (KK P)) = true from x89 P); exact He.noat_ok h
  n_Config_window := by have h := (show ((He.Fa.noat "Config" "_window").ok (KK P)) = true from x90 P); exact He.noat_ok h
  n_Config_delay := by have h := (show ((He.Fa.noat "Config" "_delay").ok (KK P)) = true from x91 P); exact He.noat_ok h
  n_Config_bundle := by have h := (show ((He.Fa.noat "Config" "_bundle").ok (KK P)) = true from x92 P); exact He.noat_ok h
  g_Sheet := by have h := (show ((He.Fa.glo "Sheet").ok (KK P)) = true from x93 P); exact He.glo_ok X G h
  cl_Sheet := by have h := (show ((He.Fa.cls "Sheet").ok (KK P)) = true from x94 P); exact He.cls_ok h
  mk_Sheet := by have h := (show ((He.Fa.mkr "Sheet").ok (KK P)) = true from x95 P); exact He.mkr_ok h
  m_Sheet_copy := by have h := (show ((He.Fa.meth "Sheet" "copy").ok (KK P)) = true from x96 P); exact He.meth_ok h
  n_Sheet_config := by have h := (show ((He.Fa.noat "Sheet" "_config").ok (KK P)) = true from x97 P); exact He.noat_ok h
  n_Sheet_side := by have h := (show ((He.Fa.noat "Sheet" "_side").ok (KK P)) = true from x98 P); exact He.noat_ok h
  n_Sheet_balances := by have h := (show ((He.Fa.noat "Sheet" "_balances").ok (KK P)) = true from x99 P); exact He.noat_ok h
  n_Sheet_bonds := by have h := (show ((He.Fa.noat "Sheet" "_bonds").ok (KK P)) = true from x100 P); exact He.noat_ok h
  n_Sheet_vaults := by have h := (show ((He.Fa.noat "Sheet" "_vaults").ok (KK P)) = true from x101 P); exact He.noat_ok h
  g_State := by have h := (show ((He.Fa.glo "State").ok (KK P)) = true from x102 P); exact He.glo_ok X G h
  cl_State := by have h := (show ((He.Fa.cls "State").ok (KK P)) = true from x103 P); exact He.cls_ok h
  mk_State := by have h := (show ((He.Fa.mkr "State").ok (KK P)) = true from x104 P); exact He.mkr_ok h
  m_State_copy := by have h := (show ((He.Fa.meth "State" "copy").ok (KK P)) = true from x105 P); exact He.meth_ok h
  m_State_rise := by have h := (show ((He.Fa.meth "State" "rise").ok (KK P)) = true from x106 P); exact He.meth_ok h
  n_State_config := by have h := (show ((He.Fa.noat "State" "_config").ok (KK P)) = true from x107 P); exact He.noat_ok h
  n_State_side := by have h := (show ((He.Fa.noat "State" "_side").ok (KK P)) = true from x108 P); exact He.noat_ok h
  n_State_sheet := by have h := (show ((He.Fa.noat "State" "_sheet").ok (KK P)) = true from x109 P); exact He.noat_ok h
  n_State_height := by have h := (show ((He.Fa.noat "State" "_height").ok (KK P)) = true from x110 P); exact He.noat_ok h
  n_State_sets := by have h := (show ((He.Fa.noat "State" "_sets").ok (KK P)) = true from x111 P); exact He.noat_ok h
  n_State_stops := by have h := (show ((He.Fa.noat "State" "_stops").ok (KK P)) = true from x112 P); exact He.noat_ok h
  n_State_stopped := by have h := (show ((He.Fa.noat "State" "_stopped").ok (KK P)) = true from x113 P); exact He.noat_ok h
  n_State_transfers := by have h := (show ((He.Fa.noat "State" "_transfers").ok (KK P)) = true from x114 P); exact He.noat_ok h
  n_State_returned := by have h := (show ((He.Fa.noat "State" "_returned").ok (KK P)) = true from x115 P); exact He.noat_ok h
  n_State_taken := by have h := (show ((He.Fa.noat "State" "_taken").ok (KK P)) = true from x116 P); exact He.noat_ok h
  n_State_waiting := by have h := (show ((He.Fa.noat "State" "_waiting").ok (KK P)) = true from x117 P); exact He.noat_ok h
  n_State_deliveries := by have h := (show ((He.Fa.noat "State" "_deliveries").ok (KK P)) = true from x118 P); exact He.noat_ok h
  g_Chain := by have h := (show ((He.Fa.glo "Chain").ok (KK P)) = true from x119 P); exact He.glo_ok X G h
  cl_Chain := by have h := (show ((He.Fa.cls "Chain").ok (KK P)) = true from x120 P); exact He.cls_ok h
  mk_Chain := by have h := (show ((He.Fa.mkr "Chain").ok (KK P)) = true from x121 P); exact He.mkr_ok h
  m_Chain_add := by have h := (show ((He.Fa.meth "Chain" "add").ok (KK P)) = true from x122 P); exact He.meth_ok h
  m_Chain_numbers := by have h := (show ((He.Fa.meth "Chain" "numbers").ok (KK P)) = true from x123 P); exact He.meth_ok h
  m_Chain_parent := by have h := (show ((He.Fa.meth "Chain" "parent").ok (KK P)) = true from x124 P); exact He.meth_ok h
  m_Chain_final := by have h := (show ((He.Fa.meth "Chain" "final").ok (KK P)) = true from x125 P); exact He.meth_ok h
  m_Chain_tips := by have h := (show ((He.Fa.meth "Chain" "tips").ok (KK P)) = true from x126 P); exact He.meth_ok h
  m_Chain_check_block := by have h := (show ((He.Fa.meth "Chain" "_check_block").ok (KK P)) = true from x127 P); exact He.meth_ok h
  n_Chain_config := by have h := (show ((He.Fa.noat "Chain" "_config").ok (KK P)) = true from x128 P); exact He.noat_ok h
  n_Chain_notary := by have h := (show ((He.Fa.noat "Chain" "_notary").ok (KK P)) = true from x129 P); exact He.noat_ok h
  n_Chain_blocks := by have h := (show ((He.Fa.noat "Chain" "_blocks").ok (KK P)) = true from x130 P); exact He.noat_ok h
  n_Chain_orders := by have h := (show ((He.Fa.noat "Chain" "_orders").ok (KK P)) = true from x131 P); exact He.noat_ok h
  n_Chain_states := by have h := (show ((He.Fa.noat "Chain" "_states").ok (KK P)) = true from x132 P); exact He.noat_ok h
  n_Chain_receipts := by have h := (show ((He.Fa.noat "Chain" "_receipts").ok (KK P)) = true from x133 P); exact He.noat_ok h
  n_Chain_events := by have h := (show ((He.Fa.noat "Chain" "_events").ok (KK P)) = true from x134 P); exact He.noat_ok h
  g_Notary := by have h := (show ((He.Fa.glo "Notary").ok (KK P)) = true from x135 P); exact He.glo_ok X G h
  cl_Notary := by have h := (show ((He.Fa.cls "Notary").ok (KK P)) = true from x136 P); exact He.cls_ok h
  mk_Notary := by have h := (show ((He.Fa.mkr "Notary").ok (KK P)) = true from x137 P); exact He.mkr_ok h
  n_Notary_table := by have h := (show ((He.Fa.noat "Notary" "_table").ok (KK P)) = true from x138 P); exact He.noat_ok h
  n_Notary_numbers := by have h := (show ((He.Fa.noat "Notary" "_numbers").ok (KK P)) = true from x139 P); exact He.noat_ok h
  t_ACCOUNT_LENGTH := (e140 P X G).choose
  c_ACCOUNT_LENGTH := (e140 P X G).choose_spec
  t_BARRED_CODE := (e141 P X G).choose
  c_BARRED_CODE := (e141 P X G).choose_spec
  t_FIRST := (e142 P X G).choose
  c_FIRST := (e142 P X G).choose_spec
  t_FIRST_CODE := (e143 P X G).choose
  c_FIRST_CODE := (e143 P X G).choose_spec
  t_LAST_CODE := (e144 P X G).choose
  c_LAST_CODE := (e144 P X G).choose_spec
  t_MOST_IN_BUNDLE := (e145 P X G).choose
  c_MOST_IN_BUNDLE := (e145 P X G).choose_spec
  c_SIDES := by have h := (show ((He.Fa.glo "SIDES").ok (KK P)) = true from x146 P); exact He.glo_ok X G h
  k_SIDES := by have h := (show (He.tupB (KK P) "SIDES" [.str "west", .str "east"]) = true from x147 P); exact sqTK_of (He.tupB_ok h fun _ => none)
  t_TOKEN_LENGTH := (e148 P X G).choose
  c_TOKEN_LENGTH := (e148 P X G).choose_spec
  z_abs := by have h := (show ((He.Fa.free "abs").ok (KK P)) = true from x149 P); exact He.free_ok X G h
  z_any := by have h := (show ((He.Fa.free "any").ok (KK P)) = true from x150 P); exact He.free_ok X G h
  z_bool := by have h := (show ((He.Fa.free "bool").ok (KK P)) = true from x151 P); exact He.free_ok X G h
  z_dict := by have h := (show ((He.Fa.free "dict").ok (KK P)) = true from x152 P); exact He.free_ok X G h
  z_int := by have h := (show ((He.Fa.free "int").ok (KK P)) = true from x153 P); exact He.free_ok X G h
  z_isinstance := by have h := (show ((He.Fa.free "isinstance").ok (KK P)) = true from x154 P); exact He.free_ok X G h
  z_len := by have h := (show ((He.Fa.free "len").ok (KK P)) = true from x155 P); exact He.free_ok X G h
  z_list := by have h := (show ((He.Fa.free "list").ok (KK P)) = true from x156 P); exact He.free_ok X G h
  z_max := by have h := (show ((He.Fa.free "max").ok (KK P)) = true from x157 P); exact He.free_ok X G h
  z_min := by have h := (show ((He.Fa.free "min").ok (KK P)) = true from x158 P); exact He.free_ok X G h
  z_ord := by have h := (show ((He.Fa.free "ord").ok (KK P)) = true from x159 P); exact He.free_ok X G h
  z_range := by have h := (show ((He.Fa.free "range").ok (KK P)) = true from x160 P); exact He.free_ok X G h
  z_sorted := by have h := (show ((He.Fa.free "sorted").ok (KK P)) = true from x161 P); exact He.free_ok X G h
  z_str := by have h := (show ((He.Fa.free "str").ok (KK P)) = true from x162 P); exact He.free_ok X G h
  z_tuple := by have h := (show ((He.Fa.free "tuple").ok (KK P)) = true from x163 P); exact He.free_ok X G h
  C_Blocks := (He.ga (KK P) "Blocks")
  C_BridgeError := (He.ga (KK P) "BridgeError")
  C_UnknownParent := (He.ga (KK P) "UnknownParent")
  C_DuplicateBlock := (He.ga (KK P) "DuplicateBlock")
  C_ConflictsWithFinal := (He.ga (KK P) "ConflictsWithFinal")
  C_Config := (He.ga (KK P) "Config")
  C_Sheet := (He.ga (KK P) "Sheet")
  C_State := (He.ga (KK P) "State")
  C_Chain := (He.ga (KK P) "Chain")
  C_Notary := (He.ga (KK P) "Notary")
  a_SIDES := (He.ga (KK P) "SIDES")
end
end Pf
open PySem PySem.W PySem.Calls PyProof.Rows
set_option maxRecDepth 100000 in
set_option maxHeartbeats 0 in
theorem PySem.Challenge.cw_vaultbridge_k05_final_blocks_stay_holds : PySem.Challenge.rw_vaultbridge_k05_final_blocks_stay.Holds := by
  w_on; o_law
  refine HandSHeadRun.head_any (r := OpenLaw.row PySem.Challenge.rw_vaultbridge_k05_final_blocks_stay) (q := Pf.qv) (H := Pf.hk) (ob := Pf.obs) (M := 30000) (loose := Pf.nms) (d := HandSHeadRun.topDef (PySem.W.OpenLaw.row PySem.Challenge.rw_vaultbridge_k05_final_blocks_stay).prog 120) (kwd := []) Pf.obs_eq
    (by kernel_rfl) (fun s => by kernel_rfl) Pf.run (by kernel_rfl) (by kernel_rfl) (by kernel_rfl) (by rfl) (by first | assumption | decide +kernel) (by decide +kernel) ⟨rfl, rfl, rfl, rfl, rfl, by decide +kernel⟩ ?hw ?hc
  case hw => w_witness2
  case hc =>
    refine L2.walk_of (l := PySem.Challenge.rw_vaultbridge_k05_final_blocks_stay) (n := 63) (k := 11) (x := "script") (K := Pf.KK) (CX := fun _ => L2.CX0) (sp := fun w => Pf.spLaw _) rfl (by decide) (by kernel_rfl) ⟨rfl, by decide, by decide⟩ (fun w h Y => PySem.W.kIn_of Y) ?F (fun _ _ a ns hl _ hS => ⟨a, ns, rfl, hS, hl, fun _ => rfl⟩) (fun _ _ _ _ _ h => h)
    intro w mg fa h KX G hmg0
    have hmg : mg ("law" : PySem.Str) = some (.ref fa) := by
      have e : (HandSHeadRun.topDef (PySem.W.OpenLaw.row PySem.Challenge.rw_vaultbridge_k05_final_blocks_stay).prog 120).name = ("law" : PySem.Str) := by kernel_rfl
      rw [← e]
      exact hmg0
    have e := hmg.symm.trans (Pf.txt_of w.params KX G).g_law
    cases e
    exact ⟨_, (Pf.D57 w.params).choose_spec.2.2, fun base _ _ => Pf.ok_law (Pf.txt_of w.params KX G)⟩
