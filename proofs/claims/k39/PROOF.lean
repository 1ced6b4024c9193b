
import PyProof.Rows.All
import Wide.All
import OpenK.AllK
import Wide.FinOn
import KE.KStateDown
import HandS.Base
import HandS.Call
import HandS.Ends
import HandS.More
import HandS.Words
import HandS.WordsExc
import HandS.Defaults
import HandS.Head0
import HandS.Head1
import HandS.Head2
import HandS.HeadEnd
import HandS.Ends
import HandS.HeadHook1
import HandS.HeadHook2
import HandS.HeadHook3
import HandS.HeadHook4
import HandS.EndTab
import HandS.SetKeys
import HandS.Flow
import HandS.ExcIs
import HandS.Sort
import HandS.Walk
import HandS.Text
import HandS.Rev
import HandS.FStr
import HandS.Wide
import HandS.WideBits
import HandS.NoneIn
import PyProof.SumWalkG
import KE.KeyNested
import HandS.Remove
import HandS.ReplaceDef
import HandS.ForMost
import HandS.TupAny
import HandS.Deep
import HandS.IsInst
import HandS.Style
import HandS.Steps
import HandS.Evl
import HandS.MakeKwOnly
import HandS.CallLocal
import HandS.WrittenGet
import KE.DataFind
import HandS.SortInts
import HandS.DictComp
import HandS.TryOnly
import HandS.FromBytesMap
import KE.DataMinKey
import HandS.Lambda
import HandS.Conv
import HandS.Nested
import HandS.SortKw
import KE.SortData
import KE.LtData
import KE.KDictPairs
import KE.SortKeyHeap
import KE.KLam
import KE.KDictSum
import PySem.Challenge.RW_vaultbridge_k39_shares
set_option Elab.async false
set_option linter.all false
set_option maxRecDepth 100000
set_option maxHeartbeats 0
namespace Pf
open PySem PySem.Spec PyProof.Rows L2
def top (i : Nat) : Stmt := PySem.Challenge.pw_vaultbridge_k39_shares.main.body.getD i (.Pass ⟨0, 0, 0, 0⟩)
abbrev s_shares : Stmt := top 23
abbrev s_next_set : Stmt := top 24
abbrev s_is_integer : Stmt := top 33
abbrev s_is_at_least : Stmt := top 34
abbrev s_is_text : Stmt := top 35
abbrev s_is_short_text : Stmt := top 36
abbrev s_is_account : Stmt := top 37
abbrev s_is_side : Stmt := top 38
abbrev s_is_set : Stmt := top 40
abbrev s_is_pair : Stmt := top 41
abbrev s_Config_init : Stmt := inClass (top 49) 0
abbrev s_Config_check_token : Stmt := inClass (top 49) 2
abbrev s_Config_home : Stmt := inClass (top 49) 3
abbrev s_Config_scale : Stmt := inClass (top 49) 4
abbrev s_Config_opening : Stmt := inClass (top 49) 7
abbrev s_Config_guards : Stmt := inClass (top 49) 8
abbrev s_Config_depth : Stmt := inClass (top 49) 9
abbrev s_Config_window : Stmt := inClass (top 49) 10
abbrev s_Config_delay : Stmt := inClass (top 49) 11
abbrev s_Config_bundle : Stmt := inClass (top 49) 12
abbrev s_check_list : Stmt := top 50
abbrev s_check_least : Stmt := top 51
abbrev s_check_token_row : Stmt := top 52
abbrev s_check_balance_row : Stmt := top 53
abbrev s_check_amount : Stmt := top 66
abbrev s_do_bond : Stmt := top 69
abbrev s_word_of : Stmt := top 93
abbrev s_outcome : Stmt := top 95
abbrev s_Sheet_init : Stmt := inClass (top 99) 0
abbrev s_Sheet_copy : Stmt := inClass (top 99) 1
abbrev s_Sheet_balance : Stmt := inClass (top 99) 2
abbrev s_Sheet_vault : Stmt := inClass (top 99) 3
abbrev s_Sheet_bonded : Stmt := inClass (top 99) 4
abbrev s_Sheet_bonders : Stmt := inClass (top 99) 5
abbrev s_Sheet_mint : Stmt := inClass (top 99) 10
abbrev s_Sheet_bond : Stmt := inClass (top 99) 12
abbrev s_copied : Stmt := top 100
abbrev s_held : Stmt := top 101
abbrev s_put : Stmt := top 102
abbrev s_draw : Stmt := top 103
abbrev s_State_init : Stmt := inClass (top 108) 0
abbrev s_State_copy : Stmt := inClass (top 108) 1
abbrev s_State_bonded : Stmt := inClass (top 108) 8
abbrev s_State_bonded_guards : Stmt := inClass (top 108) 14
abbrev s_State_sheet : Stmt := inClass (top 108) 17
abbrev s_State_rise : Stmt := inClass (top 108) 22
abbrev s_opening_state : Stmt := top 109
abbrev s_Notary_init : Stmt := inClass (top 114) 0
abbrev s_L_pot : Stmt := top 116
abbrev s_L_next : Stmt := top 117
abbrev s_L_set : Stmt := top 119
abbrev s_L_config : Stmt := top 120
abbrev s_L_made : Stmt := top 121
abbrev s_L_refused : Stmt := top 129
abbrev s_L_due : Stmt := top 130
abbrev s_law : Stmt := top 131
def dd0 : He.DefD := ⟨("shares", none), "shares", "shares", defArgs s_shares, defBody s_shares, defScope s_shares, [], []⟩
def dd1 : He.DefD := ⟨("next_set", none), "next_set", "next_set", defArgs s_next_set, defBody s_next_set, defScope s_next_set, [], []⟩
def dd2 : He.DefD := ⟨("is_integer", none), "is_integer", "is_integer", defArgs s_is_integer, defBody s_is_integer, defScope s_is_integer, [], []⟩
def dd3 : He.DefD := ⟨("is_at_least", none), "is_at_least", "is_at_least", defArgs s_is_at_least, defBody s_is_at_least, defScope s_is_at_least, [], []⟩
def dd4 : He.DefD := ⟨("is_text", none), "is_text", "is_text", defArgs s_is_text, defBody s_is_text, defScope s_is_text, [], []⟩
def dd5 : He.DefD := ⟨("is_short_text", none), "is_short_text", "is_short_text", defArgs s_is_short_text, defBody s_is_short_text, defScope s_is_short_text, [], []⟩
def dd6 : He.DefD := ⟨("is_account", none), "is_account", "is_account", defArgs s_is_account, defBody s_is_account, defScope s_is_account, [], []⟩
def dd7 : He.DefD := ⟨("is_side", none), "is_side", "is_side", defArgs s_is_side, defBody s_is_side, defScope s_is_side, [], []⟩
def dd8 : He.DefD := ⟨("is_set", none), "is_set", "is_set", defArgs s_is_set, defBody s_is_set, defScope s_is_set, [], []⟩
def dd9 : He.DefD := ⟨("is_pair", none), "is_pair", "is_pair", defArgs s_is_pair, defBody s_is_pair, defScope s_is_pair, [], []⟩
def dd10 : He.DefD := ⟨("Config", some "__init__"), "__init__", "Config.__init__", defArgs s_Config_init, defBody s_Config_init, defScope s_Config_init, [], [("depth", .int 2), ("window", .int 4), ("delay", .int 2), ("bundle", .int 4)]⟩
def dd11 : He.DefD := ⟨("Config", some "check_token"), "check_token", "Config.check_token", defArgs s_Config_check_token, defBody s_Config_check_token, defScope s_Config_check_token, [], []⟩
def dd12 : He.DefD := ⟨("Config", some "home"), "home", "Config.home", defArgs s_Config_home, defBody s_Config_home, defScope s_Config_home, [], []⟩
def dd13 : He.DefD := ⟨("Config", some "scale"), "scale", "Config.scale", defArgs s_Config_scale, defBody s_Config_scale, defScope s_Config_scale, [], []⟩
def dd14 : He.DefD := ⟨("Config", some "opening"), "opening", "Config.opening", defArgs s_Config_opening, defBody s_Config_opening, defScope s_Config_opening, [], []⟩
def dd15 : He.DefD := ⟨("Config", some "guards"), "guards", "Config.guards", defArgs s_Config_guards, defBody s_Config_guards, defScope s_Config_guards, [], []⟩
def dd16 : He.DefD := ⟨("Config", some "depth"), "depth", "Config.depth", defArgs s_Config_depth, defBody s_Config_depth, defScope s_Config_depth, [], []⟩
def dd17 : He.DefD := ⟨("Config", some "window"), "window", "Config.window", defArgs s_Config_window, defBody s_Config_window, defScope s_Config_window, [], []⟩
def dd18 : He.DefD := ⟨("Config", some "delay"), "delay", "Config.delay", defArgs s_Config_delay, defBody s_Config_delay, defScope s_Config_delay, [], []⟩
def dd19 : He.DefD := ⟨("Config", some "bundle"), "bundle", "Config.bundle", defArgs s_Config_bundle, defBody s_Config_bundle, defScope s_Config_bundle, [], []⟩
def dd20 : He.DefD := ⟨("check_list", none), "check_list", "check_list", defArgs s_check_list, defBody s_check_list, defScope s_check_list, [], []⟩
def dd21 : He.DefD := ⟨("check_least", none), "check_least", "check_least", defArgs s_check_least, defBody s_check_least, defScope s_check_least, [], []⟩
def dd22 : He.DefD := ⟨("check_token_row", none), "check_token_row", "check_token_row", defArgs s_check_token_row, defBody s_check_token_row, defScope s_check_token_row, [], []⟩
def dd23 : He.DefD := ⟨("check_balance_row", none), "check_balance_row", "check_balance_row", defArgs s_check_balance_row, defBody s_check_balance_row, defScope s_check_balance_row, [], []⟩
def dd24 : He.DefD := ⟨("check_amount", none), "check_amount", "check_amount", defArgs s_check_amount, defBody s_check_amount, defScope s_check_amount, [], []⟩
def dd25 : He.DefD := ⟨("do_bond", none), "do_bond", "do_bond", defArgs s_do_bond, defBody s_do_bond, defScope s_do_bond, [], []⟩
def dd26 : He.DefD := ⟨("word_of", none), "word_of", "word_of", defArgs s_word_of, defBody s_word_of, defScope s_word_of, [], []⟩
def dd27 : He.DefD := ⟨("outcome", none), "outcome", "outcome", defArgs s_outcome, defBody s_outcome, defScope s_outcome, [], []⟩
def dd28 : He.DefD := ⟨("Sheet", some "__init__"), "__init__", "Sheet.__init__", defArgs s_Sheet_init, defBody s_Sheet_init, defScope s_Sheet_init, [], []⟩
def dd29 : He.DefD := ⟨("Sheet", some "copy"), "copy", "Sheet.copy", defArgs s_Sheet_copy, defBody s_Sheet_copy, defScope s_Sheet_copy, [], []⟩
def dd30 : He.DefD := ⟨("Sheet", some "balance"), "balance", "Sheet.balance", defArgs s_Sheet_balance, defBody s_Sheet_balance, defScope s_Sheet_balance, [], []⟩
def dd31 : He.DefD := ⟨("Sheet", some "vault"), "vault", "Sheet.vault", defArgs s_Sheet_vault, defBody s_Sheet_vault, defScope s_Sheet_vault, [], []⟩
def dd32 : He.DefD := ⟨("Sheet", some "bonded"), "bonded", "Sheet.bonded", defArgs s_Sheet_bonded, defBody s_Sheet_bonded, defScope s_Sheet_bonded, [], []⟩
def dd33 : He.DefD := ⟨("Sheet", some "bonders"), "bonders", "Sheet.bonders", defArgs s_Sheet_bonders, defBody s_Sheet_bonders, defScope s_Sheet_bonders, [], []⟩
def dd34 : He.DefD := ⟨("Sheet", some "mint"), "mint", "Sheet.mint", defArgs s_Sheet_mint, defBody s_Sheet_mint, defScope s_Sheet_mint, [], []⟩
def dd35 : He.DefD := ⟨("Sheet", some "bond"), "bond", "Sheet.bond", defArgs s_Sheet_bond, defBody s_Sheet_bond, defScope s_Sheet_bond, [], []⟩
def dd36 : He.DefD := ⟨("copied", none), "copied", "copied", defArgs s_copied, defBody s_copied, defScope s_copied, [], []⟩
def dd37 : He.DefD := ⟨("held", none), "held", "held", defArgs s_held, defBody s_held, defScope s_held, [], []⟩
def dd38 : He.DefD := ⟨("put", none), "put", "put", defArgs s_put, defBody s_put, defScope s_put, [], []⟩
def dd39 : He.DefD := ⟨("draw", none), "draw", "draw", defArgs s_draw, defBody s_draw, defScope s_draw, [], []⟩
def dd40 : He.DefD := ⟨("State", some "__init__"), "__init__", "State.__init__", defArgs s_State_init, defBody s_State_init, defScope s_State_init, [], []⟩
def dd41 : He.DefD := ⟨("State", some "copy"), "copy", "State.copy", defArgs s_State_copy, defBody s_State_copy, defScope s_State_copy, [], []⟩
def dd42 : He.DefD := ⟨("State", some "bonded"), "bonded", "State.bonded", defArgs s_State_bonded, defBody s_State_bonded, defScope s_State_bonded, [], []⟩
def dd43 : He.DefD := ⟨("State", some "bonded_guards"), "bonded_guards", "State.bonded_guards", defArgs s_State_bonded_guards, defBody s_State_bonded_guards, defScope s_State_bonded_guards, [], []⟩
def dd44 : He.DefD := ⟨("State", some "sheet"), "sheet", "State.sheet", defArgs s_State_sheet, defBody s_State_sheet, defScope s_State_sheet, [], []⟩
def dd45 : He.DefD := ⟨("State", some "rise"), "rise", "State.rise", defArgs s_State_rise, defBody s_State_rise, defScope s_State_rise, [], []⟩
def dd46 : He.DefD := ⟨("opening_state", none), "opening_state", "opening_state", defArgs s_opening_state, defBody s_opening_state, defScope s_opening_state, [], []⟩
def dd47 : He.DefD := ⟨("Notary", some "__init__"), "__init__", "Notary.__init__", defArgs s_Notary_init, defBody s_Notary_init, defScope s_Notary_init, [], []⟩
def dd48 : He.DefD := ⟨("_law_pot", none), "_law_pot", "_law_pot", defArgs s_L_pot, defBody s_L_pot, defScope s_L_pot, [], []⟩
def dd49 : He.DefD := ⟨("_law_next", none), "_law_next", "_law_next", defArgs s_L_next, defBody s_L_next, defScope s_L_next, [], []⟩
def dd50 : He.DefD := ⟨("_law_set", none), "_law_set", "_law_set", defArgs s_L_set, defBody s_L_set, defScope s_L_set, [], []⟩
def dd51 : He.DefD := ⟨("_law_config", none), "_law_config", "_law_config", defArgs s_L_config, defBody s_L_config, defScope s_L_config, [], []⟩
def dd52 : He.DefD := ⟨("_law_made", none), "_law_made", "_law_made", defArgs s_L_made, defBody s_L_made, defScope s_L_made, [], []⟩
def dd53 : He.DefD := ⟨("_law_refused", none), "_law_refused", "_law_refused", defArgs s_L_refused, defBody s_L_refused, defScope s_L_refused, [], []⟩
def dd54 : He.DefD := ⟨("_law_due", none), "_law_due", "_law_due", defArgs s_L_due, defBody s_L_due, defScope s_L_due, [], []⟩
def dd55 : He.DefD := ⟨("law", none), "law", "law", defArgs s_law, defBody s_law, defScope s_law, [], []⟩
def KK0 (P : Params) : PySem.W.Frag := [(3, ⟨.type "dict", none, .dict [⟨PyData.keyHash P "__name__", .str "__name__" 165, .str "law_vaultbridge_k39_shares" 2152⟩, ⟨PyData.keyHash P "__doc__", .str "__doc__" 166, .none⟩, ⟨PyData.keyHash P "__package__", .str "__package__" 167, .none⟩, ⟨PyData.keyHash P "__loader__", .str "__loader__" 168, .builtin "__main__.__loader__#opaque"⟩, ⟨PyData.keyHash P "__spec__", .str "__spec__" 169, .none⟩, ⟨PyData.keyHash P "__annotations__", .str "__annotations__" 170, .ref 6⟩, ⟨PyData.keyHash P "__builtins__", .str "__builtins__" 171, .ref 4⟩, ⟨PyData.keyHash P "__file__", .str "__file__" 173, .str "/claim/cut.py" 172⟩, ⟨PyData.keyHash P "__cached__", .str "__cached__" 174, .none⟩, ⟨PyData.keyHash P "_wall", .str "_wall" 193, .ref 21⟩, ⟨PyData.keyHash P "BridgeError", .str "BridgeError" 220, .ref 38⟩, ⟨PyData.keyHash P "InvalidArgument", .str "InvalidArgument" 236, .ref 51⟩, ⟨PyData.keyHash P "InvalidOrder", .str "InvalidOrder" 252, .ref 63⟩, ⟨PyData.keyHash P "UnknownToken", .str "UnknownToken" 268, .ref 75⟩, ⟨PyData.keyHash P "NotEnoughBalance", .str "NotEnoughBalance" 284, .ref 87⟩, ⟨PyData.keyHash P "NotEnoughWeight", .str "NotEnoughWeight" 300, .ref 99⟩, ⟨PyData.keyHash P "WrongSide", .str "WrongSide" 316, .ref 111⟩, ⟨PyData.keyHash P "WrongNumber", .str "WrongNumber" 332, .ref 123⟩, ⟨PyData.keyHash P "AlreadyTaken", .str "AlreadyTaken" 348, .ref 135⟩, ⟨PyData.keyHash P "UnknownTransfer", .str "UnknownTransfer" 364, .ref 147⟩, ⟨PyData.keyHash P "LimitReached", .str "LimitReached" 380, .ref 159⟩, ⟨PyData.keyHash P "Stopped", .str "Stopped" 396, .ref 171⟩, ⟨PyData.keyHash P "UnknownParent", .str "UnknownParent" 412, .ref 183⟩, ⟨PyData.keyHash P "UnknownBlock", .str "UnknownBlock" 428, .ref 195⟩, ⟨PyData.keyHash P "DuplicateBlock", .str "DuplicateBlock" 444, .ref 207⟩, ⟨PyData.keyHash P "ConflictsWithFinal", .str "ConflictsWithFinal" 460, .ref 219⟩, ⟨PyData.keyHash P "UnknownSeal", .str "UnknownSeal" 476, .ref 231⟩, ⟨PyData.keyHash P "TooEarly", .str "TooEarly" 492, .ref 243⟩, ⟨PyData.keyHash P "StillOnDuty", .str "StillOnDuty" 508, .ref 255⟩, ⟨PyData.keyHash P "NothingBonded", .str "NothingBonded" 524, .ref 267⟩, ⟨PyData.keyHash P "shares", .str "shares" 532, .ref 274⟩, ⟨PyData.keyHash P "next_set", .str "next_set" 538, .ref 279⟩, ⟨PyData.keyHash P "Blocks", .str "Blocks" 662, .ref 373⟩, ⟨PyData.keyHash P "SIDES", .str "SIDES" 667, .ref 378⟩, ⟨PyData.keyHash P "ACCOUNT_LENGTH", .str "ACCOUNT_LENGTH" 669, .int (20) 668⟩, ⟨PyData.keyHash P "FIRST_CODE", .str "FIRST_CODE" 671, .int (32) 670⟩, ⟨PyData.keyHash P "LAST_CODE", .str "LAST_CODE" 673, .int (126) 672⟩, ⟨PyData.keyHash P "BARRED_CODE", .str "BARRED_CODE" 675, .int (37) 674⟩, ⟨PyData.keyHash P "is_integer", .str "is_integer" 682, .ref 385⟩, ⟨PyData.keyHash P "is_at_least", .str "is_at_least" 690, .ref 392⟩, ⟨PyData.keyHash P "is_text", .str "is_text" 699, .ref 399⟩, ⟨PyData.keyHash P "is_short_text", .str "is_short_text" 707, .ref 406⟩, ⟨PyData.keyHash P "is_account", .str "is_account" 714, .ref 413⟩, ⟨PyData.keyHash P "is_side", .str "is_side" 721, .ref 420⟩, ⟨PyData.keyHash P "is_set", .str "is_set" 732, .ref 427⟩, ⟨PyData.keyHash P "is_pair", .str "is_pair" 739, .ref 434⟩, ⟨PyData.keyHash P "total", .str "total" 745, .ref 439⟩, ⟨PyData.keyHash P "threshold", .str "threshold" 752, .ref 446⟩, ⟨PyData.keyHash P "minority", .str "minority" 759, .ref 453⟩, ⟨PyData.keyHash P "TOKEN_LENGTH", .str "TOKEN_LENGTH" 763, .int (12) 762⟩, ⟨PyData.keyHash P "MOST_IN_BUNDLE", .str "MOST_IN_BUNDLE" 765, .int (8) 764⟩, ⟨PyData.keyHash P "other_side", .str "other_side" 772, .ref 460⟩, ⟨PyData.keyHash P "Config", .str "Config" 910, .ref 560⟩, ⟨PyData.keyHash P "check_list", .str "check_list" 918, .ref 571⟩, ⟨PyData.keyHash P "check_least", .str "check_least" 927, .ref 578⟩, ⟨PyData.keyHash P "check_token_row", .str "check_token_row" 939, .ref 585⟩, ⟨PyData.keyHash P "check_balance_row", .str "check_balance_row" 950, .ref 592⟩, ⟨PyData.keyHash P "ABOUT_ONE", .str "ABOUT_ONE" 956, .ref 593⟩, ⟨PyData.keyHash P "ABOUT_ALL", .str "ABOUT_ALL" 959, .ref 594⟩, ⟨PyData.keyHash P "MOST_TRANSFERS", .str "MOST_TRANSFERS" 961, .int (8) 960⟩, ⟨PyData.keyHash P "is_transfer", .str "is_transfer" 974, .ref 601⟩, ⟨PyData.keyHash P "is_bundle", .str "is_bundle" 980, .ref 606⟩, ⟨PyData.keyHash P "is_letter", .str "is_letter" 991, .ref 613⟩, ⟨PyData.keyHash P "key", .str "key" 998, .ref 620⟩, ⟨PyData.keyHash P "FROM_OTHER_SIDE", .str "FROM_OTHER_SIDE" 1004, .ref 621⟩, ⟨PyData.keyHash P "OF_THIS_SIDE", .str "OF_THIS_SIDE" 1008, .ref 622⟩, ⟨PyData.keyHash P "NOT_WHEN_STOPPED", .str "NOT_WHEN_STOPPED" 1012, .ref 623⟩, ⟨PyData.keyHash P "check_amount", .str "check_amount" 1021, .ref 630⟩, ⟨PyData.keyHash P "do_pay", .str "do_pay" 1036, .ref 637⟩, ⟨PyData.keyHash P "do_send", .str "do_send" 1058, .ref 644⟩, ⟨PyData.keyHash P "do_bond", .str "do_bond" 1072, .ref 651⟩, ⟨PyData.keyHash P "do_unbond", .str "do_unbond" 1078, .ref 656⟩, ⟨PyData.keyHash P "do_accuse", .str "do_accuse" 1084, .ref 661⟩, ⟨PyData.keyHash P "sets_in_use", .str "sets_in_use" 1090, .ref 666⟩, ⟨PyData.keyHash P "check_backed", .str "check_backed" 1101, .ref 673⟩, ⟨PyData.keyHash P "check_current", .str "check_current" 1112, .ref 680⟩, ⟨PyData.keyHash P "check_vault", .str "check_vault" 1122, .ref 687⟩, ⟨PyData.keyHash P "give", .str "give" 1133, .ref 694⟩, ⟨PyData.keyHash P "is_beyond_limit", .str "is_beyond_limit" 1145, .ref 701⟩, ⟨PyData.keyHash P "deliver", .str "deliver" 1161, .ref 708⟩, ⟨PyData.keyHash P "refuse", .str "refuse" 1170, .ref 715⟩, ⟨PyData.keyHash P "accept", .str "accept" 1185, .ref 722⟩, ⟨PyData.keyHash P "take_deliver", .str "take_deliver" 1199, .ref 729⟩, ⟨PyData.keyHash P "take_bundle", .str "take_bundle" 1218, .ref 736⟩, ⟨PyData.keyHash P "take_cancel", .str "take_cancel" 1233, .ref 743⟩, ⟨PyData.keyHash P "take_return", .str "take_return" 1251, .ref 750⟩, ⟨PyData.keyHash P "take_rotate", .str "take_rotate" 1266, .ref 757⟩, ⟨PyData.keyHash P "take_stop", .str "take_stop" 1280, .ref 764⟩, ⟨PyData.keyHash P "take_resume", .str "take_resume" 1294, .ref 771⟩, ⟨PyData.keyHash P "LETTERS", .str "LETTERS" 1309, .ref 772⟩, ⟨PyData.keyHash P "do_take", .str "do_take" 1323, .ref 779⟩, ⟨PyData.keyHash P "do_claim", .str "do_claim" 1337, .ref 786⟩, ⟨PyData.keyHash P "ORDERS", .str "ORDERS" 1352, .ref 787⟩, ⟨PyData.keyHash P "PARTS", .str "PARTS" 1374, .ref 788⟩, ⟨PyData.keyHash P "word_of", .str "word_of" 1382, .ref 795⟩, ⟨PyData.keyHash P "named_seals", .str "named_seals" 1389, .ref 802⟩, ⟨PyData.keyHash P "outcome", .str "outcome" 1402, .ref 809⟩, ⟨PyData.keyHash P "next_height", .str "next_height" 1410, .ref 816⟩, ⟨PyData.keyHash P "after_block", .str "after_block" 1425, .ref 823⟩, ⟨PyData.keyHash P "Sheet", .str "Sheet" 1585, .ref 929⟩, ⟨PyData.keyHash P "copied", .str "copied" 1591, .ref 938⟩, ⟨PyData.keyHash P "held", .str "held" 1600, .ref 945⟩, ⟨PyData.keyHash P "put", .str "put" 1611, .ref 952⟩, ⟨PyData.keyHash P "draw", .str "draw" 1621, .ref 959⟩, ⟨PyData.keyHash P "DELIVERED", .str "DELIVERED" 1625, .str "delivered" 1624⟩, ⟨PyData.keyHash P "REFUSED", .str "REFUSED" 1627, .str "refused" 1626⟩, ⟨PyData.keyHash P "WAITING", .str "WAITING" 1629, .str "waiting" 1628⟩, ⟨PyData.keyHash P "State", .str "State" 1911, .ref 1186⟩, ⟨PyData.keyHash P "opening_state", .str "opening_state" 1919, .ref 1197⟩, ⟨PyData.keyHash P "FIRST", .str "FIRST" 1923, .int (0) 1922⟩, ⟨PyData.keyHash P "Chain", .str "Chain" 2080, .ref 1319⟩, ⟨PyData.keyHash P "Notary", .str "Notary" 2151, .ref 1373⟩, ⟨PyData.keyHash P "_law_pot", .str "_law_pot" 2162, .ref 1384⟩, ⟨PyData.keyHash P "_law_next", .str "_law_next" 2173, .ref 1391⟩, ⟨PyData.keyHash P "_law_is_int", .str "_law_is_int" 2180, .ref 1398⟩, ⟨PyData.keyHash P "_law_set", .str "_law_set" 2186, .ref 1403⟩, ⟨PyData.keyHash P "_law_config", .str "_law_config" 2199, .ref 1410⟩, ⟨PyData.keyHash P "_law_made", .str "_law_made" 2206, .ref 1417⟩, ⟨PyData.keyHash P "_law_total", .str "_law_total" 2212, .ref 1422⟩, ⟨PyData.keyHash P "_law_threshold", .str "_law_threshold" 2221, .ref 1429⟩, ⟨PyData.keyHash P "_law_liars", .str "_law_liars" 2227, .ref 1434⟩, ⟨PyData.keyHash P "_law_is_good", .str "_law_is_good" 2233, .ref 1439⟩, ⟨PyData.keyHash P "_law_accounts", .str "_law_accounts" 2239, .ref 1446⟩, ⟨PyData.keyHash P "_law_blind_order", .str "_law_blind_order" 2245, .ref 1451⟩, ⟨PyData.keyHash P "_law_ledger", .str "_law_ledger" 2251, .ref 1456⟩, ⟨PyData.keyHash P "_law_refused", .str "_law_refused" 2260, .ref 1463⟩, ⟨PyData.keyHash P "_law_due", .str "_law_due" 2266, .ref 1468⟩, ⟨PyData.keyHash P "law", .str "law" 2272, .ref 1473⟩].toArray 128, [].toArray⟩),
  (2, ⟨.none, none, .dict [].toArray 0, [].toArray⟩),
  (38, ⟨.type "type", none, .cls ⟨"BridgeError", [.type "ValueError"], [.ref 38, .type "ValueError", .type "Exception", .type "BaseException", .type "object"], 37, "BridgeError", true, [], [.ref 51, .ref 63, .ref 75, .ref 87, .ref 99, .ref 111, .ref 123, .ref 135, .ref 147, .ref 159, .ref 171, .ref 183, .ref 195, .ref 207, .ref 219, .ref 231, .ref 243, .ref 255, .ref 267], false, none, false⟩, [(some (.ref 22)), none, (some (.str "BridgeError" 196)), (some (.str "BridgeError" 204)), (some (.builtin "ValueError.__new__")), (some (.bool true))].toArray⟩),
  (37, ⟨.type "dict", none, .dict [⟨PyData.keyHash P "__module__", .str "__module__" 203, .str "vaultbridge.errors" 194⟩, ⟨PyData.keyHash P "__firstlineno__", .str "__firstlineno__" 207, .int (5) 206⟩, ⟨PyData.keyHash P "word", .str "word" 214, .ref 35⟩, ⟨PyData.keyHash P "__static_attributes__", .str "__static_attributes__" 215, .ref 36⟩, ⟨PyData.keyHash P "__weakref__", .str "__weakref__" 217, .ref 39⟩, ⟨PyData.keyHash P "__doc__", .str "__doc__" 218, .none⟩].toArray 3, [].toArray⟩),
  (51, ⟨.type "type", none, .cls ⟨"InvalidArgument", [.ref 38], [.ref 51, .ref 38, .type "ValueError", .type "Exception", .type "BaseException", .type "object"], 50, "InvalidArgument", true, [], [], false, none, false⟩, [(some (.ref 42)), none, (some (.str "InvalidArgument" 221)), (some (.str "InvalidArgument" 229)), (some (.builtin "ValueError.__new__")), (some (.bool true))].toArray⟩),
  (50, ⟨.type "dict", none, .dict [⟨PyData.keyHash P "__module__", .str "__module__" 228, .str "vaultbridge.errors" 194⟩, ⟨PyData.keyHash P "__firstlineno__", .str "__firstlineno__" 232, .int (9) 231⟩, ⟨PyData.keyHash P "__static_attributes__", .str "__static_attributes__" 233, .ref 49⟩, ⟨PyData.keyHash P "__doc__", .str "__doc__" 234, .none⟩].toArray 2, [].toArray⟩),
  (373, ⟨.type "type", none, .cls ⟨"Blocks", [.type "object"], [.ref 373, .type "object"], 372, "Blocks", true, [], [], false, none, false⟩, [none, none, (some (.str "Blocks" 541)), (some (.str "Blocks" 549)), (some (.builtin "object.__new__")), (some (.bool true))].toArray⟩),
  (372, ⟨.type "dict", none, .dict [⟨PyData.keyHash P "__module__", .str "__module__" 548, .str "vaultbridge.blocks" 539⟩, ⟨PyData.keyHash P "__firstlineno__", .str "__firstlineno__" 552, .int (63) 551⟩, ⟨PyData.keyHash P "__init__", .str "__init__" 561, .ref 293⟩, ⟨PyData.keyHash P "has", .str "has" 569, .ref 300⟩, ⟨PyData.keyHash P "numbers", .str "numbers" 576, .ref 307⟩, ⟨PyData.keyHash P "parent", .str "parent" 584, .ref 314⟩, ⟨PyData.keyHash P "height", .str "height" 592, .ref 321⟩, ⟨PyData.keyHash P "line", .str "line" 601, .ref 328⟩, ⟨PyData.keyHash P "place", .str "place" 611, .ref 335⟩, ⟨PyData.keyHash P "final", .str "final" 618, .ref 342⟩, ⟨PyData.keyHash P "is_live", .str "is_live" 626, .ref 349⟩, ⟨PyData.keyHash P "live_tips", .str "live_tips" 633, .ref 356⟩, ⟨PyData.keyHash P "best", .str "best" 640, .ref 363⟩, ⟨PyData.keyHash P "_below", .str "_below" 649, .ref 370⟩, ⟨PyData.keyHash P "__static_attributes__", .str "__static_attributes__" 655, .ref 371⟩, ⟨PyData.keyHash P "__dict__", .str "__dict__" 657, .ref 374⟩, ⟨PyData.keyHash P "__weakref__", .str "__weakref__" 659, .ref 375⟩, ⟨PyData.keyHash P "__doc__", .str "__doc__" 660, .none⟩].toArray 4, [].toArray⟩),
  (560, ⟨.type "type", none, .cls ⟨"Config", [.type "object"], [.ref 560, .type "object"], 559, "Config", true, [], [], false, none, false⟩, [none, none, (some (.str "Config" 773)), (some (.str "Config" 781)), (some (.builtin "object.__new__")), (some (.bool true))].toArray⟩),
  (559, ⟨.type "dict", none, .dict [⟨PyData.keyHash P "__module__", .str "__module__" 780, .str "vaultbridge.config" 760⟩, ⟨PyData.keyHash P "__firstlineno__", .str "__firstlineno__" 784, .int (164) 783⟩, ⟨PyData.keyHash P "__init__", .str "__init__" 807, .ref 475⟩, ⟨PyData.keyHash P "token_names", .str "token_names" 814, .ref 482⟩, ⟨PyData.keyHash P "check_token", .str "check_token" 822, .ref 489⟩, ⟨PyData.keyHash P "home", .str "home" 830, .ref 496⟩, ⟨PyData.keyHash P "scale", .str "scale" 838, .ref 503⟩, ⟨PyData.keyHash P "limit", .str "limit" 846, .ref 510⟩, ⟨PyData.keyHash P "large", .str "large" 854, .ref 517⟩, ⟨PyData.keyHash P "opening", .str "opening" 860, .ref 522⟩, ⟨PyData.keyHash P "guards", .str "guards" 867, .ref 529⟩, ⟨PyData.keyHash P "depth", .str "depth" 874, .ref 536⟩, ⟨PyData.keyHash P "window", .str "window" 881, .ref 543⟩, ⟨PyData.keyHash P "delay", .str "delay" 888, .ref 550⟩, ⟨PyData.keyHash P "bundle", .str "bundle" 895, .ref 557⟩, ⟨PyData.keyHash P "__static_attributes__", .str "__static_attributes__" 903, .ref 558⟩, ⟨PyData.keyHash P "__dict__", .str "__dict__" 905, .ref 561⟩, ⟨PyData.keyHash P "__weakref__", .str "__weakref__" 907, .ref 562⟩, ⟨PyData.keyHash P "__doc__", .str "__doc__" 908, .none⟩].toArray 4, [].toArray⟩),
  (929, ⟨.type "type", none, .cls ⟨"Sheet", [.type "object"], [.ref 929, .type "object"], 928, "Sheet", true, [], [], false, none, false⟩, [none, none, (some (.str "Sheet" 1428)), (some (.str "Sheet" 1436)), (some (.builtin "object.__new__")), (some (.bool true))].toArray⟩),
  (928, ⟨.type "dict", none, .dict [⟨PyData.keyHash P "__module__", .str "__module__" 1435, .str "vaultbridge.sheet" 1426⟩, ⟨PyData.keyHash P "__firstlineno__", .str "__firstlineno__" 1439, .int (516) 1438⟩, ⟨PyData.keyHash P "__init__", .str "__init__" 1451, .ref 837⟩, ⟨PyData.keyHash P "copy", .str "copy" 1459, .ref 844⟩, ⟨PyData.keyHash P "balance", .str "balance" 1468, .ref 851⟩, ⟨PyData.keyHash P "vault", .str "vault" 1476, .ref 858⟩, ⟨PyData.keyHash P "bonded", .str "bonded" 1485, .ref 865⟩, ⟨PyData.keyHash P "bonders", .str "bonders" 1491, .ref 870⟩, ⟨PyData.keyHash P "circulating", .str "circulating" 1499, .ref 877⟩, ⟨PyData.keyHash P "move", .str "move" 1510, .ref 884⟩, ⟨PyData.keyHash P "lock", .str "lock" 1521, .ref 891⟩, ⟨PyData.keyHash P "release", .str "release" 1532, .ref 898⟩, ⟨PyData.keyHash P "mint", .str "mint" 1542, .ref 905⟩, ⟨PyData.keyHash P "burn", .str "burn" 1552, .ref 912⟩, ⟨PyData.keyHash P "bond", .str "bond" 1562, .ref 919⟩, ⟨PyData.keyHash P "unbond", .str "unbond" 1572, .ref 926⟩, ⟨PyData.keyHash P "__static_attributes__", .str "__static_attributes__" 1578, .ref 927⟩, ⟨PyData.keyHash P "__dict__", .str "__dict__" 1580, .ref 930⟩, ⟨PyData.keyHash P "__weakref__", .str "__weakref__" 1582, .ref 931⟩, ⟨PyData.keyHash P "__doc__", .str "__doc__" 1583, .none⟩].toArray 4, [].toArray⟩),
  (1186, ⟨.type "type", none, .cls ⟨"State", [.type "object"], [.ref 1186, .type "object"], 1185, "State", true, [], [], false, none, false⟩, [none, none, (some (.str "State" 1630)), (some (.str "State" 1638)), (some (.builtin "object.__new__")), (some (.bool true))].toArray⟩),
  (1185, ⟨.type "dict", none, .dict [⟨PyData.keyHash P "__module__", .str "__module__" 1637, .str "vaultbridge.state" 1622⟩, ⟨PyData.keyHash P "__firstlineno__", .str "__firstlineno__" 1641, .int (594) 1640⟩, ⟨PyData.keyHash P "__init__", .str "__init__" 1651, .ref 973⟩, ⟨PyData.keyHash P "copy", .str "copy" 1659, .ref 980⟩, ⟨PyData.keyHash P "side", .str "side" 1666, .ref 987⟩, ⟨PyData.keyHash P "height", .str "height" 1673, .ref 994⟩, ⟨PyData.keyHash P "epoch", .str "epoch" 1680, .ref 1001⟩, ⟨PyData.keyHash P "is_stopped", .str "is_stopped" 1687, .ref 1008⟩, ⟨PyData.keyHash P "stops", .str "stops" 1694, .ref 1015⟩, ⟨PyData.keyHash P "balance", .str "balance" 1703, .ref 1022⟩, ⟨PyData.keyHash P "bonded", .str "bonded" 1712, .ref 1029⟩, ⟨PyData.keyHash P "vault", .str "vault" 1720, .ref 1036⟩, ⟨PyData.keyHash P "circulating", .str "circulating" 1728, .ref 1043⟩, ⟨PyData.keyHash P "guards", .str "guards" 1736, .ref 1050⟩, ⟨PyData.keyHash P "transfers", .str "transfers" 1743, .ref 1057⟩, ⟨PyData.keyHash P "taken", .str "taken" 1751, .ref 1064⟩, ⟨PyData.keyHash P "bonded_guards", .str "bonded_guards" 1759, .ref 1071⟩, ⟨PyData.keyHash P "waiting", .str "waiting" 1766, .ref 1078⟩, ⟨PyData.keyHash P "is_returned", .str "is_returned" 1774, .ref 1085⟩, ⟨PyData.keyHash P "sheet", .str "sheet" 1781, .ref 1092⟩, ⟨PyData.keyHash P "sent", .str "sent" 1789, .ref 1099⟩, ⟨PyData.keyHash P "held", .str "held" 1797, .ref 1106⟩, ⟨PyData.keyHash P "claim_height", .str "claim_height" 1805, .ref 1113⟩, ⟨PyData.keyHash P "units_delivered", .str "units_delivered" 1818, .ref 1120⟩, ⟨PyData.keyHash P "rise", .str "rise" 1825, .ref 1127⟩, ⟨PyData.keyHash P "add_transfer", .str "add_transfer" 1833, .ref 1134⟩, ⟨PyData.keyHash P "hold", .str "hold" 1843, .ref 1141⟩, ⟨PyData.keyHash P "refuse", .str "refuse" 1851, .ref 1148⟩, ⟨PyData.keyHash P "deliver", .str "deliver" 1861, .ref 1155⟩, ⟨PyData.keyHash P "give_back", .str "give_back" 1869, .ref 1162⟩, ⟨PyData.keyHash P "rotate", .str "rotate" 1877, .ref 1169⟩, ⟨PyData.keyHash P "stop", .str "stop" 1884, .ref 1176⟩, ⟨PyData.keyHash P "resume", .str "resume" 1891, .ref 1183⟩, ⟨PyData.keyHash P "__static_attributes__", .str "__static_attributes__" 1904, .ref 1184⟩, ⟨PyData.keyHash P "__dict__", .str "__dict__" 1906, .ref 1187⟩, ⟨PyData.keyHash P "__weakref__", .str "__weakref__" 1908, .ref 1188⟩, ⟨PyData.keyHash P "__doc__", .str "__doc__" 1909, .none⟩].toArray 4, [].toArray⟩),
  (1319, ⟨.type "type", none, .cls ⟨"Chain", [.type "object"], [.ref 1319, .type "object"], 1318, "Chain", true, [], [], false, none, false⟩, [none, none, (some (.str "Chain" 1924)), (some (.str "Chain" 1932)), (some (.builtin "object.__new__")), (some (.bool true))].toArray⟩),
  (1318, ⟨.type "dict", none, .dict [⟨PyData.keyHash P "__module__", .str "__module__" 1931, .str "vaultbridge.chain" 1920⟩, ⟨PyData.keyHash P "__firstlineno__", .str "__firstlineno__" 1935, .int (728) 1934⟩, ⟨PyData.keyHash P "__init__", .str "__init__" 1945, .ref 1211⟩, ⟨PyData.keyHash P "add", .str "add" 1959, .ref 1218⟩, ⟨PyData.keyHash P "depth", .str "depth" 1966, .ref 1225⟩, ⟨PyData.keyHash P "token_names", .str "token_names" 1973, .ref 1232⟩, ⟨PyData.keyHash P "numbers", .str "numbers" 1980, .ref 1239⟩, ⟨PyData.keyHash P "parent", .str "parent" 1988, .ref 1246⟩, ⟨PyData.keyHash P "height", .str "height" 1996, .ref 1253⟩, ⟨PyData.keyHash P "orders", .str "orders" 2004, .ref 1260⟩, ⟨PyData.keyHash P "line", .str "line" 2012, .ref 1267⟩, ⟨PyData.keyHash P "final", .str "final" 2019, .ref 1274⟩, ⟨PyData.keyHash P "tips", .str "tips" 2026, .ref 1281⟩, ⟨PyData.keyHash P "best", .str "best" 2033, .ref 1288⟩, ⟨PyData.keyHash P "state", .str "state" 2041, .ref 1295⟩, ⟨PyData.keyHash P "receipts", .str "receipts" 2049, .ref 1302⟩, ⟨PyData.keyHash P "events", .str "events" 2057, .ref 1309⟩, ⟨PyData.keyHash P "_check_block", .str "_check_block" 2065, .ref 1316⟩, ⟨PyData.keyHash P "__static_attributes__", .str "__static_attributes__" 2073, .ref 1317⟩, ⟨PyData.keyHash P "__dict__", .str "__dict__" 2075, .ref 1320⟩, ⟨PyData.keyHash P "__weakref__", .str "__weakref__" 2077, .ref 1321⟩, ⟨PyData.keyHash P "__doc__", .str "__doc__" 2078, .none⟩].toArray 4, [].toArray⟩),
  (1373, ⟨.type "type", none, .cls ⟨"Notary", [.type "object"], [.ref 1373, .type "object"], 1372, "Notary", true, [], [], false, none, false⟩, [none, none, (some (.str "Notary" 2083)), (some (.str "Notary" 2091)), (some (.builtin "object.__new__")), (some (.bool true))].toArray⟩),
  (1372, ⟨.type "dict", none, .dict [⟨PyData.keyHash P "__module__", .str "__module__" 2090, .str "vaultbridge.notary" 2081⟩, ⟨PyData.keyHash P "__firstlineno__", .str "__firstlineno__" 2094, .int (805) 2093⟩, ⟨PyData.keyHash P "__init__", .str "__init__" 2101, .ref 1337⟩, ⟨PyData.keyHash P "seal", .str "seal" 2111, .ref 1344⟩, ⟨PyData.keyHash P "count", .str "count" 2118, .ref 1351⟩, ⟨PyData.keyHash P "check_seals", .str "check_seals" 2127, .ref 1358⟩, ⟨PyData.keyHash P "shown", .str "shown" 2135, .ref 1365⟩, ⟨PyData.keyHash P "weight", .str "weight" 2141, .ref 1370⟩, ⟨PyData.keyHash P "__static_attributes__", .str "__static_attributes__" 2144, .ref 1371⟩, ⟨PyData.keyHash P "__dict__", .str "__dict__" 2146, .ref 1374⟩, ⟨PyData.keyHash P "__weakref__", .str "__weakref__" 2148, .ref 1375⟩, ⟨PyData.keyHash P "__doc__", .str "__doc__" 2149, .none⟩].toArray 4, [].toArray⟩),
  (274, ⟨.type "function", none, .func ⟨"shares", "shares", defArgs s_shares, .stmts (defBody s_shares), defScope s_shares, 3, [], .none, .none, .none, .str "vaultbridge.shares" 525, none, .ref 273, .none, 0⟩, [].toArray⟩),
  (273, ⟨.type "code", none, .fields [.str "shares" 527, .str "shares" 528, .str "/claim/cut.py" 529, .int (48) 0, .int (2) 0, .int (0) 0, .int (0) 0, .int (3) 0, .ref 270, .bool true, .int (181) 0, .ref 271, .none, .none, .none, .ref 272, .int (530) 0, .int (48) 0, .str "/claim/cut.py" 531].toArray, [].toArray⟩),
  (279, ⟨.type "function", none, .func ⟨"next_set", "next_set", defArgs s_next_set, .stmts (defBody s_next_set), defScope s_next_set, 3, [], .none, .none, .none, .str "vaultbridge.shares" 525, none, .ref 278, .none, 0⟩, [].toArray⟩),
  (278, ⟨.type "code", none, .fields [.str "next_set" 533, .str "next_set" 534, .str "/claim/cut.py" 535, .int (60) 0, .int (3) 0, .int (0) 0, .int (0) 0, .int (3) 0, .ref 275, .bool true, .int (181) 0, .ref 276, .none, .none, .none, .ref 277, .int (536) 0, .int (60) 0, .str "/claim/cut.py" 537].toArray, [].toArray⟩),
  (385, ⟨.type "function", none, .func ⟨"is_integer", "is_integer", defArgs s_is_integer, .stmts (defBody s_is_integer), defScope s_is_integer, 3, [], .none, .none, .none, .str "vaultbridge.kinds" 663, none, .ref 384, .none, 0⟩, [].toArray⟩),
  (384, ⟨.type "code", none, .fields [.str "is_integer" 676, .str "is_integer" 677, .str "/claim/cut.py" 678, .int (123) 0, .int (1) 0, .int (0) 0, .int (0) 0, .int (3) 0, .ref 379, .bool true, .int (181) 0, .ref 380, .none, .ref 381, .ref 382, .ref 383, .int (680) 0, .int (123) 0, .str "/claim/cut.py" 681].toArray, [].toArray⟩),
  (392, ⟨.type "function", none, .func ⟨"is_at_least", "is_at_least", defArgs s_is_at_least, .stmts (defBody s_is_at_least), defScope s_is_at_least, 3, [], .none, .none, .none, .str "vaultbridge.kinds" 663, none, .ref 391, .none, 0⟩, [].toArray⟩),
  (391, ⟨.type "code", none, .fields [.str "is_at_least" 683, .str "is_at_least" 684, .str "/claim/cut.py" 685, .int (125) 0, .int (2) 0, .int (0) 0, .int (0) 0, .int (3) 0, .ref 386, .bool true, .int (181) 0, .ref 387, .none, .ref 388, .ref 389, .ref 390, .int (688) 0, .int (125) 0, .str "/claim/cut.py" 689].toArray, [].toArray⟩),
  (399, ⟨.type "function", none, .func ⟨"is_text", "is_text", defArgs s_is_text, .stmts (defBody s_is_text), defScope s_is_text, 3, [], .none, .none, .none, .str "vaultbridge.kinds" 663, none, .ref 398, .none, 0⟩, [].toArray⟩),
  (398, ⟨.type "code", none, .fields [.str "is_text" 691, .str "is_text" 692, .str "/claim/cut.py" 693, .int (127) 0, .int (1) 0, .int (0) 0, .int (0) 0, .int (3) 0, .ref 393, .bool true, .int (181) 0, .ref 394, .none, .ref 395, .ref 396, .ref 397, .int (697) 0, .int (127) 0, .str "/claim/cut.py" 698].toArray, [].toArray⟩),
  (406, ⟨.type "function", none, .func ⟨"is_short_text", "is_short_text", defArgs s_is_short_text, .stmts (defBody s_is_short_text), defScope s_is_short_text, 3, [], .none, .none, .none, .str "vaultbridge.kinds" 663, none, .ref 405, .none, 0⟩, [].toArray⟩),
  (405, ⟨.type "code", none, .fields [.str "is_short_text" 700, .str "is_short_text" 701, .str "/claim/cut.py" 702, .int (135) 0, .int (2) 0, .int (0) 0, .int (0) 0, .int (3) 0, .ref 400, .bool true, .int (181) 0, .ref 401, .none, .ref 402, .ref 403, .ref 404, .int (705) 0, .int (135) 0, .str "/claim/cut.py" 706].toArray, [].toArray⟩),
  (413, ⟨.type "function", none, .func ⟨"is_account", "is_account", defArgs s_is_account, .stmts (defBody s_is_account), defScope s_is_account, 3, [], .none, .none, .none, .str "vaultbridge.kinds" 663, none, .ref 412, .none, 0⟩, [].toArray⟩),
  (412, ⟨.type "code", none, .fields [.str "is_account" 708, .str "is_account" 709, .str "/claim/cut.py" 710, .int (137) 0, .int (1) 0, .int (0) 0, .int (0) 0, .int (3) 0, .ref 407, .bool true, .int (181) 0, .ref 408, .none, .ref 409, .ref 410, .ref 411, .int (712) 0, .int (137) 0, .str "/claim/cut.py" 713].toArray, [].toArray⟩),
  (420, ⟨.type "function", none, .func ⟨"is_side", "is_side", defArgs s_is_side, .stmts (defBody s_is_side), defScope s_is_side, 3, [], .none, .none, .none, .str "vaultbridge.kinds" 663, none, .ref 419, .none, 0⟩, [].toArray⟩),
  (419, ⟨.type "code", none, .fields [.str "is_side" 715, .str "is_side" 716, .str "/claim/cut.py" 717, .int (139) 0, .int (1) 0, .int (0) 0, .int (0) 0, .int (3) 0, .ref 414, .bool true, .int (181) 0, .ref 415, .none, .ref 416, .ref 417, .ref 418, .int (719) 0, .int (139) 0, .str "/claim/cut.py" 720].toArray, [].toArray⟩),
  (427, ⟨.type "function", none, .func ⟨"is_set", "is_set", defArgs s_is_set, .stmts (defBody s_is_set), defScope s_is_set, 3, [], .none, .none, .none, .str "vaultbridge.sets" 722, none, .ref 426, .none, 0⟩, [].toArray⟩),
  (426, ⟨.type "code", none, .fields [.str "is_set" 724, .str "is_set" 725, .str "/claim/cut.py" 726, .int (142) 0, .int (1) 0, .int (0) 0, .int (0) 0, .int (3) 0, .ref 421, .bool true, .int (181) 0, .ref 422, .none, .ref 423, .ref 424, .ref 425, .int (730) 0, .int (142) 0, .str "/claim/cut.py" 731].toArray, [].toArray⟩),
  (434, ⟨.type "function", none, .func ⟨"is_pair", "is_pair", defArgs s_is_pair, .stmts (defBody s_is_pair), defScope s_is_pair, 3, [], .none, .none, .none, .str "vaultbridge.sets" 722, none, .ref 433, .none, 0⟩, [].toArray⟩),
  (433, ⟨.type "code", none, .fields [.str "is_pair" 733, .str "is_pair" 734, .str "/claim/cut.py" 735, .int (151) 0, .int (1) 0, .int (0) 0, .int (0) 0, .int (3) 0, .ref 428, .bool true, .int (181) 0, .ref 429, .none, .ref 430, .ref 431, .ref 432, .int (737) 0, .int (151) 0, .str "/claim/cut.py" 738].toArray, [].toArray⟩),
  (475, ⟨.type "function", none, .func ⟨"__init__", "Config.__init__", defArgs s_Config_init, .stmts (defBody s_Config_init), defScope s_Config_init, 3, [], .none, .ref 468, .none, .str "vaultbridge.config" 760, none, .ref 474, .none, 0⟩, [].toArray⟩),
  (474, ⟨.type "code", none, .fields [.str "__init__" 793, .str "Config.__init__" 794, .str "/claim/cut.py" 795, .int (166) 0, .int (1) 0, .int (0) 0, .int (7) 0, .int (3) 0, .ref 469, .bool true, .int (181) 0, .ref 470, .none, .ref 471, .ref 472, .ref 473, .int (805) 0, .int (166) 0, .str "/claim/cut.py" 806].toArray, [].toArray⟩)]
def KK1 (P : Params) : PySem.W.Frag := [(468, ⟨.type "dict", none, .dict [⟨PyData.keyHash P "depth", .str "depth" 789, .int (2) 785⟩, ⟨PyData.keyHash P "window", .str "window" 790, .int (4) 786⟩, ⟨PyData.keyHash P "delay", .str "delay" 791, .int (2) 787⟩, ⟨PyData.keyHash P "bundle", .str "bundle" 792, .int (4) 788⟩].toArray 4, [].toArray⟩),
  (489, ⟨.type "function", none, .func ⟨"check_token", "Config.check_token", defArgs s_Config_check_token, .stmts (defBody s_Config_check_token), defScope s_Config_check_token, 3, [], .none, .none, .none, .str "vaultbridge.config" 760, none, .ref 488, .none, 0⟩, [].toArray⟩),
  (488, ⟨.type "code", none, .fields [.str "check_token" 815, .str "Config.check_token" 816, .str "/claim/cut.py" 817, .int (195) 0, .int (2) 0, .int (0) 0, .int (0) 0, .int (3) 0, .ref 483, .bool true, .int (181) 0, .ref 484, .none, .ref 485, .ref 486, .ref 487, .int (820) 0, .int (195) 0, .str "/claim/cut.py" 821].toArray, [].toArray⟩),
  (496, ⟨.type "function", none, .func ⟨"home", "Config.home", defArgs s_Config_home, .stmts (defBody s_Config_home), defScope s_Config_home, 3, [], .none, .none, .none, .str "vaultbridge.config" 760, none, .ref 495, .none, 0⟩, [].toArray⟩),
  (495, ⟨.type "code", none, .fields [.str "home" 823, .str "Config.home" 824, .str "/claim/cut.py" 825, .int (199) 0, .int (2) 0, .int (0) 0, .int (0) 0, .int (3) 0, .ref 490, .bool true, .int (181) 0, .ref 491, .none, .ref 492, .ref 493, .ref 494, .int (828) 0, .int (199) 0, .str "/claim/cut.py" 829].toArray, [].toArray⟩),
  (503, ⟨.type "function", none, .func ⟨"scale", "Config.scale", defArgs s_Config_scale, .stmts (defBody s_Config_scale), defScope s_Config_scale, 3, [], .none, .none, .none, .str "vaultbridge.config" 760, none, .ref 502, .none, 0⟩, [].toArray⟩),
  (502, ⟨.type "code", none, .fields [.str "scale" 831, .str "Config.scale" 832, .str "/claim/cut.py" 833, .int (203) 0, .int (2) 0, .int (0) 0, .int (0) 0, .int (3) 0, .ref 497, .bool true, .int (181) 0, .ref 498, .none, .ref 499, .ref 500, .ref 501, .int (836) 0, .int (203) 0, .str "/claim/cut.py" 837].toArray, [].toArray⟩),
  (522, ⟨.type "function", none, .func ⟨"opening", "Config.opening", defArgs s_Config_opening, .stmts (defBody s_Config_opening), defScope s_Config_opening, 3, [], .none, .none, .none, .str "vaultbridge.config" 760, none, .ref 521, .none, 0⟩, [].toArray⟩),
  (521, ⟨.type "code", none, .fields [.str "opening" 855, .str "Config.opening" 856, .str "/claim/cut.py" 857, .int (215) 0, .int (2) 0, .int (0) 0, .int (0) 0, .int (3) 0, .ref 518, .bool true, .int (181) 0, .ref 519, .none, .none, .none, .ref 520, .int (858) 0, .int (215) 0, .str "/claim/cut.py" 859].toArray, [].toArray⟩),
  (529, ⟨.type "function", none, .func ⟨"guards", "Config.guards", defArgs s_Config_guards, .stmts (defBody s_Config_guards), defScope s_Config_guards, 3, [], .none, .none, .none, .str "vaultbridge.config" 760, none, .ref 528, .none, 0⟩, [].toArray⟩),
  (528, ⟨.type "code", none, .fields [.str "guards" 861, .str "Config.guards" 862, .str "/claim/cut.py" 863, .int (218) 0, .int (1) 0, .int (0) 0, .int (0) 0, .int (3) 0, .ref 523, .bool true, .int (181) 0, .ref 524, .none, .ref 525, .ref 526, .ref 527, .int (865) 0, .int (218) 0, .str "/claim/cut.py" 866].toArray, [].toArray⟩),
  (536, ⟨.type "function", none, .func ⟨"depth", "Config.depth", defArgs s_Config_depth, .stmts (defBody s_Config_depth), defScope s_Config_depth, 3, [], .none, .none, .none, .str "vaultbridge.config" 760, none, .ref 535, .none, 0⟩, [].toArray⟩),
  (535, ⟨.type "code", none, .fields [.str "depth" 868, .str "Config.depth" 869, .str "/claim/cut.py" 870, .int (221) 0, .int (1) 0, .int (0) 0, .int (0) 0, .int (3) 0, .ref 530, .bool true, .int (181) 0, .ref 531, .none, .ref 532, .ref 533, .ref 534, .int (872) 0, .int (221) 0, .str "/claim/cut.py" 873].toArray, [].toArray⟩),
  (543, ⟨.type "function", none, .func ⟨"window", "Config.window", defArgs s_Config_window, .stmts (defBody s_Config_window), defScope s_Config_window, 3, [], .none, .none, .none, .str "vaultbridge.config" 760, none, .ref 542, .none, 0⟩, [].toArray⟩),
  (542, ⟨.type "code", none, .fields [.str "window" 875, .str "Config.window" 876, .str "/claim/cut.py" 877, .int (224) 0, .int (1) 0, .int (0) 0, .int (0) 0, .int (3) 0, .ref 537, .bool true, .int (181) 0, .ref 538, .none, .ref 539, .ref 540, .ref 541, .int (879) 0, .int (224) 0, .str "/claim/cut.py" 880].toArray, [].toArray⟩),
  (550, ⟨.type "function", none, .func ⟨"delay", "Config.delay", defArgs s_Config_delay, .stmts (defBody s_Config_delay), defScope s_Config_delay, 3, [], .none, .none, .none, .str "vaultbridge.config" 760, none, .ref 549, .none, 0⟩, [].toArray⟩),
  (549, ⟨.type "code", none, .fields [.str "delay" 882, .str "Config.delay" 883, .str "/claim/cut.py" 884, .int (227) 0, .int (1) 0, .int (0) 0, .int (0) 0, .int (3) 0, .ref 544, .bool true, .int (181) 0, .ref 545, .none, .ref 546, .ref 547, .ref 548, .int (886) 0, .int (227) 0, .str "/claim/cut.py" 887].toArray, [].toArray⟩),
  (557, ⟨.type "function", none, .func ⟨"bundle", "Config.bundle", defArgs s_Config_bundle, .stmts (defBody s_Config_bundle), defScope s_Config_bundle, 3, [], .none, .none, .none, .str "vaultbridge.config" 760, none, .ref 556, .none, 0⟩, [].toArray⟩),
  (556, ⟨.type "code", none, .fields [.str "bundle" 889, .str "Config.bundle" 890, .str "/claim/cut.py" 891, .int (230) 0, .int (1) 0, .int (0) 0, .int (0) 0, .int (3) 0, .ref 551, .bool true, .int (181) 0, .ref 552, .none, .ref 553, .ref 554, .ref 555, .int (893) 0, .int (230) 0, .str "/claim/cut.py" 894].toArray, [].toArray⟩),
  (571, ⟨.type "function", none, .func ⟨"check_list", "check_list", defArgs s_check_list, .stmts (defBody s_check_list), defScope s_check_list, 3, [], .none, .none, .none, .str "vaultbridge.config" 760, none, .ref 570, .none, 0⟩, [].toArray⟩),
  (570, ⟨.type "code", none, .fields [.str "check_list" 911, .str "check_list" 912, .str "/claim/cut.py" 913, .int (232) 0, .int (2) 0, .int (0) 0, .int (0) 0, .int (3) 0, .ref 565, .bool true, .int (181) 0, .ref 566, .none, .ref 567, .ref 568, .ref 569, .int (916) 0, .int (232) 0, .str "/claim/cut.py" 917].toArray, [].toArray⟩),
  (578, ⟨.type "function", none, .func ⟨"check_least", "check_least", defArgs s_check_least, .stmts (defBody s_check_least), defScope s_check_least, 3, [], .none, .none, .none, .str "vaultbridge.config" 760, none, .ref 577, .none, 0⟩, [].toArray⟩),
  (577, ⟨.type "code", none, .fields [.str "check_least" 919, .str "check_least" 920, .str "/claim/cut.py" 921, .int (235) 0, .int (3) 0, .int (0) 0, .int (0) 0, .int (3) 0, .ref 572, .bool true, .int (181) 0, .ref 573, .none, .ref 574, .ref 575, .ref 576, .int (925) 0, .int (235) 0, .str "/claim/cut.py" 926].toArray, [].toArray⟩),
  (585, ⟨.type "function", none, .func ⟨"check_token_row", "check_token_row", defArgs s_check_token_row, .stmts (defBody s_check_token_row), defScope s_check_token_row, 3, [], .none, .none, .none, .str "vaultbridge.config" 760, none, .ref 584, .none, 0⟩, [].toArray⟩),
  (584, ⟨.type "code", none, .fields [.str "check_token_row" 928, .str "check_token_row" 929, .str "/claim/cut.py" 930, .int (238) 0, .int (1) 0, .int (0) 0, .int (0) 0, .int (3) 0, .ref 579, .bool true, .int (181) 0, .ref 580, .none, .ref 581, .ref 582, .ref 583, .int (937) 0, .int (238) 0, .str "/claim/cut.py" 938].toArray, [].toArray⟩),
  (592, ⟨.type "function", none, .func ⟨"check_balance_row", "check_balance_row", defArgs s_check_balance_row, .stmts (defBody s_check_balance_row), defScope s_check_balance_row, 3, [], .none, .none, .none, .str "vaultbridge.config" 760, none, .ref 591, .none, 0⟩, [].toArray⟩),
  (591, ⟨.type "code", none, .fields [.str "check_balance_row" 940, .str "check_balance_row" 941, .str "/claim/cut.py" 942, .int (249) 0, .int (2) 0, .int (0) 0, .int (0) 0, .int (3) 0, .ref 586, .bool true, .int (181) 0, .ref 587, .none, .ref 588, .ref 589, .ref 590, .int (948) 0, .int (249) 0, .str "/claim/cut.py" 949].toArray, [].toArray⟩),
  (630, ⟨.type "function", none, .func ⟨"check_amount", "check_amount", defArgs s_check_amount, .stmts (defBody s_check_amount), defScope s_check_amount, 3, [], .none, .none, .none, .str "vaultbridge.gateway" 999, none, .ref 629, .none, 0⟩, [].toArray⟩),
  (629, ⟨.type "code", none, .fields [.str "check_amount" 1013, .str "check_amount" 1014, .str "/claim/cut.py" 1015, .int (292) 0, .int (3) 0, .int (0) 0, .int (0) 0, .int (3) 0, .ref 624, .bool true, .int (181) 0, .ref 625, .none, .ref 626, .ref 627, .ref 628, .int (1019) 0, .int (292) 0, .str "/claim/cut.py" 1020].toArray, [].toArray⟩),
  (651, ⟨.type "function", none, .func ⟨"do_bond", "do_bond", defArgs s_do_bond, .stmts (defBody s_do_bond), defScope s_do_bond, 3, [], .none, .none, .none, .str "vaultbridge.gateway" 999, none, .ref 650, .none, 0⟩, [].toArray⟩),
  (650, ⟨.type "code", none, .fields [.str "do_bond" 1059, .str "do_bond" 1060, .str "/claim/cut.py" 1061, .int (319) 0, .int (4) 0, .int (0) 0, .int (0) 0, .int (3) 0, .ref 645, .bool true, .int (181) 0, .ref 646, .none, .ref 647, .ref 648, .ref 649, .int (1070) 0, .int (319) 0, .str "/claim/cut.py" 1071].toArray, [].toArray⟩),
  (795, ⟨.type "function", none, .func ⟨"word_of", "word_of", defArgs s_word_of, .stmts (defBody s_word_of), defScope s_word_of, 3, [], .none, .none, .none, .str "vaultbridge.gateway" 999, none, .ref 794, .none, 0⟩, [].toArray⟩),
  (794, ⟨.type "code", none, .fields [.str "word_of" 1375, .str "word_of" 1376, .str "/claim/cut.py" 1377, .int (483) 0, .int (1) 0, .int (0) 0, .int (0) 0, .int (3) 0, .ref 789, .bool true, .int (181) 0, .ref 790, .none, .ref 791, .ref 792, .ref 793, .int (1380) 0, .int (483) 0, .str "/claim/cut.py" 1381].toArray, [].toArray⟩),
  (809, ⟨.type "function", none, .func ⟨"outcome", "outcome", defArgs s_outcome, .stmts (defBody s_outcome), defScope s_outcome, 3, [], .none, .none, .none, .str "vaultbridge.gateway" 999, none, .ref 808, .none, 0⟩, [].toArray⟩),
  (808, ⟨.type "code", none, .fields [.str "outcome" 1390, .str "outcome" 1391, .str "/claim/cut.py" 1392, .int (494) 0, .int (4) 0, .int (0) 0, .int (0) 0, .int (3) 0, .ref 803, .bool true, .int (181) 0, .ref 804, .none, .ref 805, .ref 806, .ref 807, .int (1400) 0, .int (494) 0, .str "/claim/cut.py" 1401].toArray, [].toArray⟩),
  (837, ⟨.type "function", none, .func ⟨"__init__", "Sheet.__init__", defArgs s_Sheet_init, .stmts (defBody s_Sheet_init), defScope s_Sheet_init, 3, [], .none, .none, .none, .str "vaultbridge.sheet" 1426, none, .ref 836, .none, 0⟩, [].toArray⟩),
  (836, ⟨.type "code", none, .fields [.str "__init__" 1440, .str "Sheet.__init__" 1441, .str "/claim/cut.py" 1442, .int (518) 0, .int (3) 0, .int (0) 0, .int (0) 0, .int (3) 0, .ref 831, .bool true, .int (181) 0, .ref 832, .none, .ref 833, .ref 834, .ref 835, .int (1449) 0, .int (518) 0, .str "/claim/cut.py" 1450].toArray, [].toArray⟩),
  (844, ⟨.type "function", none, .func ⟨"copy", "Sheet.copy", defArgs s_Sheet_copy, .stmts (defBody s_Sheet_copy), defScope s_Sheet_copy, 3, [], .none, .none, .none, .str "vaultbridge.sheet" 1426, none, .ref 843, .none, 0⟩, [].toArray⟩),
  (843, ⟨.type "code", none, .fields [.str "copy" 1452, .str "Sheet.copy" 1453, .str "/claim/cut.py" 1454, .int (527) 0, .int (1) 0, .int (0) 0, .int (0) 0, .int (3) 0, .ref 838, .bool true, .int (181) 0, .ref 839, .none, .ref 840, .ref 841, .ref 842, .int (1457) 0, .int (527) 0, .str "/claim/cut.py" 1458].toArray, [].toArray⟩),
  (851, ⟨.type "function", none, .func ⟨"balance", "Sheet.balance", defArgs s_Sheet_balance, .stmts (defBody s_Sheet_balance), defScope s_Sheet_balance, 3, [], .none, .none, .none, .str "vaultbridge.sheet" 1426, none, .ref 850, .none, 0⟩, [].toArray⟩)]
def KK2 (P : Params) : PySem.W.Frag := [(850, ⟨.type "code", none, .fields [.str "balance" 1460, .str "Sheet.balance" 1461, .str "/claim/cut.py" 1462, .int (534) 0, .int (3) 0, .int (0) 0, .int (0) 0, .int (3) 0, .ref 845, .bool true, .int (181) 0, .ref 846, .none, .ref 847, .ref 848, .ref 849, .int (1466) 0, .int (534) 0, .str "/claim/cut.py" 1467].toArray, [].toArray⟩),
  (858, ⟨.type "function", none, .func ⟨"vault", "Sheet.vault", defArgs s_Sheet_vault, .stmts (defBody s_Sheet_vault), defScope s_Sheet_vault, 3, [], .none, .none, .none, .str "vaultbridge.sheet" 1426, none, .ref 857, .none, 0⟩, [].toArray⟩),
  (857, ⟨.type "code", none, .fields [.str "vault" 1469, .str "Sheet.vault" 1470, .str "/claim/cut.py" 1471, .int (537) 0, .int (2) 0, .int (0) 0, .int (0) 0, .int (3) 0, .ref 852, .bool true, .int (181) 0, .ref 853, .none, .ref 854, .ref 855, .ref 856, .int (1474) 0, .int (537) 0, .str "/claim/cut.py" 1475].toArray, [].toArray⟩),
  (865, ⟨.type "function", none, .func ⟨"bonded", "Sheet.bonded", defArgs s_Sheet_bonded, .stmts (defBody s_Sheet_bonded), defScope s_Sheet_bonded, 3, [], .none, .none, .none, .str "vaultbridge.sheet" 1426, none, .ref 864, .none, 0⟩, [].toArray⟩),
  (864, ⟨.type "code", none, .fields [.str "bonded" 1477, .str "Sheet.bonded" 1478, .str "/claim/cut.py" 1479, .int (540) 0, .int (3) 0, .int (0) 0, .int (0) 0, .int (3) 0, .ref 859, .bool true, .int (181) 0, .ref 860, .none, .ref 861, .ref 862, .ref 863, .int (1483) 0, .int (540) 0, .str "/claim/cut.py" 1484].toArray, [].toArray⟩),
  (870, ⟨.type "function", none, .func ⟨"bonders", "Sheet.bonders", defArgs s_Sheet_bonders, .stmts (defBody s_Sheet_bonders), defScope s_Sheet_bonders, 3, [], .none, .none, .none, .str "vaultbridge.sheet" 1426, none, .ref 869, .none, 0⟩, [].toArray⟩),
  (869, ⟨.type "code", none, .fields [.str "bonders" 1486, .str "Sheet.bonders" 1487, .str "/claim/cut.py" 1488, .int (543) 0, .int (2) 0, .int (0) 0, .int (0) 0, .int (3) 0, .ref 866, .bool true, .int (181) 0, .ref 867, .none, .none, .none, .ref 868, .int (1489) 0, .int (543) 0, .str "/claim/cut.py" 1490].toArray, [].toArray⟩),
  (905, ⟨.type "function", none, .func ⟨"mint", "Sheet.mint", defArgs s_Sheet_mint, .stmts (defBody s_Sheet_mint), defScope s_Sheet_mint, 3, [], .none, .none, .none, .str "vaultbridge.sheet" 1426, none, .ref 904, .none, 0⟩, [].toArray⟩),
  (904, ⟨.type "code", none, .fields [.str "mint" 1533, .str "Sheet.mint" 1534, .str "/claim/cut.py" 1535, .int (566) 0, .int (4) 0, .int (0) 0, .int (0) 0, .int (3) 0, .ref 899, .bool true, .int (181) 0, .ref 900, .none, .ref 901, .ref 902, .ref 903, .int (1540) 0, .int (566) 0, .str "/claim/cut.py" 1541].toArray, [].toArray⟩),
  (919, ⟨.type "function", none, .func ⟨"bond", "Sheet.bond", defArgs s_Sheet_bond, .stmts (defBody s_Sheet_bond), defScope s_Sheet_bond, 3, [], .none, .none, .none, .str "vaultbridge.sheet" 1426, none, .ref 918, .none, 0⟩, [].toArray⟩),
  (918, ⟨.type "code", none, .fields [.str "bond" 1553, .str "Sheet.bond" 1554, .str "/claim/cut.py" 1555, .int (572) 0, .int (4) 0, .int (0) 0, .int (0) 0, .int (3) 0, .ref 913, .bool true, .int (181) 0, .ref 914, .none, .ref 915, .ref 916, .ref 917, .int (1560) 0, .int (572) 0, .str "/claim/cut.py" 1561].toArray, [].toArray⟩),
  (938, ⟨.type "function", none, .func ⟨"copied", "copied", defArgs s_copied, .stmts (defBody s_copied), defScope s_copied, 3, [], .none, .none, .none, .str "vaultbridge.sheet" 1426, none, .ref 937, .none, 0⟩, [].toArray⟩),
  (937, ⟨.type "code", none, .fields [.str "copied" 1586, .str "copied" 1587, .str "/claim/cut.py" 1588, .int (579) 0, .int (1) 0, .int (0) 0, .int (0) 0, .int (3) 0, .ref 934, .bool true, .int (181) 0, .ref 935, .none, .none, .none, .ref 936, .int (1589) 0, .int (579) 0, .str "/claim/cut.py" 1590].toArray, [].toArray⟩),
  (945, ⟨.type "function", none, .func ⟨"held", "held", defArgs s_held, .stmts (defBody s_held), defScope s_held, 3, [], .none, .none, .none, .str "vaultbridge.sheet" 1426, none, .ref 944, .none, 0⟩, [].toArray⟩),
  (944, ⟨.type "code", none, .fields [.str "held" 1592, .str "held" 1593, .str "/claim/cut.py" 1594, .int (581) 0, .int (3) 0, .int (0) 0, .int (0) 0, .int (3) 0, .ref 939, .bool true, .int (181) 0, .ref 940, .none, .ref 941, .ref 942, .ref 943, .int (1598) 0, .int (581) 0, .str "/claim/cut.py" 1599].toArray, [].toArray⟩),
  (952, ⟨.type "function", none, .func ⟨"put", "put", defArgs s_put, .stmts (defBody s_put), defScope s_put, 3, [], .none, .none, .none, .str "vaultbridge.sheet" 1426, none, .ref 951, .none, 0⟩, [].toArray⟩),
  (951, ⟨.type "code", none, .fields [.str "put" 1601, .str "put" 1602, .str "/claim/cut.py" 1603, .int (583) 0, .int (4) 0, .int (0) 0, .int (0) 0, .int (3) 0, .ref 946, .bool true, .int (181) 0, .ref 947, .none, .ref 948, .ref 949, .ref 950, .int (1609) 0, .int (583) 0, .str "/claim/cut.py" 1610].toArray, [].toArray⟩),
  (959, ⟨.type "function", none, .func ⟨"draw", "draw", defArgs s_draw, .stmts (defBody s_draw), defScope s_draw, 3, [], .none, .none, .none, .str "vaultbridge.sheet" 1426, none, .ref 958, .none, 0⟩, [].toArray⟩),
  (958, ⟨.type "code", none, .fields [.str "draw" 1612, .str "draw" 1613, .str "/claim/cut.py" 1614, .int (586) 0, .int (4) 0, .int (0) 0, .int (0) 0, .int (3) 0, .ref 953, .bool true, .int (181) 0, .ref 954, .none, .ref 955, .ref 956, .ref 957, .int (1619) 0, .int (586) 0, .str "/claim/cut.py" 1620].toArray, [].toArray⟩),
  (973, ⟨.type "function", none, .func ⟨"__init__", "State.__init__", defArgs s_State_init, .stmts (defBody s_State_init), defScope s_State_init, 3, [], .none, .none, .none, .str "vaultbridge.state" 1622, none, .ref 972, .none, 0⟩, [].toArray⟩),
  (972, ⟨.type "code", none, .fields [.str "__init__" 1642, .str "State.__init__" 1643, .str "/claim/cut.py" 1644, .int (596) 0, .int (4) 0, .int (0) 0, .int (0) 0, .int (3) 0, .ref 967, .bool true, .int (181) 0, .ref 968, .none, .ref 969, .ref 970, .ref 971, .int (1649) 0, .int (596) 0, .str "/claim/cut.py" 1650].toArray, [].toArray⟩),
  (980, ⟨.type "function", none, .func ⟨"copy", "State.copy", defArgs s_State_copy, .stmts (defBody s_State_copy), defScope s_State_copy, 3, [], .none, .none, .none, .str "vaultbridge.state" 1622, none, .ref 979, .none, 0⟩, [].toArray⟩),
  (979, ⟨.type "code", none, .fields [.str "copy" 1652, .str "State.copy" 1653, .str "/claim/cut.py" 1654, .int (610) 0, .int (1) 0, .int (0) 0, .int (0) 0, .int (3) 0, .ref 974, .bool true, .int (181) 0, .ref 975, .none, .ref 976, .ref 977, .ref 978, .int (1657) 0, .int (610) 0, .str "/claim/cut.py" 1658].toArray, [].toArray⟩),
  (1029, ⟨.type "function", none, .func ⟨"bonded", "State.bonded", defArgs s_State_bonded, .stmts (defBody s_State_bonded), defScope s_State_bonded, 3, [], .none, .none, .none, .str "vaultbridge.state" 1622, none, .ref 1028, .none, 0⟩, [].toArray⟩),
  (1028, ⟨.type "code", none, .fields [.str "bonded" 1704, .str "State.bonded" 1705, .str "/claim/cut.py" 1706, .int (641) 0, .int (3) 0, .int (0) 0, .int (0) 0, .int (3) 0, .ref 1023, .bool true, .int (181) 0, .ref 1024, .none, .ref 1025, .ref 1026, .ref 1027, .int (1710) 0, .int (641) 0, .str "/claim/cut.py" 1711].toArray, [].toArray⟩),
  (1071, ⟨.type "function", none, .func ⟨"bonded_guards", "State.bonded_guards", defArgs s_State_bonded_guards, .stmts (defBody s_State_bonded_guards), defScope s_State_bonded_guards, 3, [], .none, .none, .none, .str "vaultbridge.state" 1622, none, .ref 1070, .none, 0⟩, [].toArray⟩),
  (1070, ⟨.type "code", none, .fields [.str "bonded_guards" 1752, .str "State.bonded_guards" 1753, .str "/claim/cut.py" 1754, .int (661) 0, .int (2) 0, .int (0) 0, .int (0) 0, .int (3) 0, .ref 1065, .bool true, .int (181) 0, .ref 1066, .none, .ref 1067, .ref 1068, .ref 1069, .int (1757) 0, .int (661) 0, .str "/claim/cut.py" 1758].toArray, [].toArray⟩),
  (1092, ⟨.type "function", none, .func ⟨"sheet", "State.sheet", defArgs s_State_sheet, .stmts (defBody s_State_sheet), defScope s_State_sheet, 3, [], .none, .none, .none, .str "vaultbridge.state" 1622, none, .ref 1091, .none, 0⟩, [].toArray⟩),
  (1091, ⟨.type "code", none, .fields [.str "sheet" 1775, .str "State.sheet" 1776, .str "/claim/cut.py" 1777, .int (671) 0, .int (1) 0, .int (0) 0, .int (0) 0, .int (3) 0, .ref 1086, .bool true, .int (181) 0, .ref 1087, .none, .ref 1088, .ref 1089, .ref 1090, .int (1779) 0, .int (671) 0, .str "/claim/cut.py" 1780].toArray, [].toArray⟩),
  (1127, ⟨.type "function", none, .func ⟨"rise", "State.rise", defArgs s_State_rise, .stmts (defBody s_State_rise), defScope s_State_rise, 3, [], .none, .none, .none, .str "vaultbridge.state" 1622, none, .ref 1126, .none, 0⟩, [].toArray⟩),
  (1126, ⟨.type "code", none, .fields [.str "rise" 1819, .str "State.rise" 1820, .str "/claim/cut.py" 1821, .int (692) 0, .int (1) 0, .int (0) 0, .int (0) 0, .int (3) 0, .ref 1121, .bool true, .int (181) 0, .ref 1122, .none, .ref 1123, .ref 1124, .ref 1125, .int (1823) 0, .int (692) 0, .str "/claim/cut.py" 1824].toArray, [].toArray⟩),
  (1197, ⟨.type "function", none, .func ⟨"opening_state", "opening_state", defArgs s_opening_state, .stmts (defBody s_opening_state), defScope s_opening_state, 3, [], .none, .none, .none, .str "vaultbridge.state" 1622, none, .ref 1196, .none, 0⟩, [].toArray⟩),
  (1196, ⟨.type "code", none, .fields [.str "opening_state" 1912, .str "opening_state" 1913, .str "/claim/cut.py" 1914, .int (724) 0, .int (2) 0, .int (0) 0, .int (0) 0, .int (3) 0, .ref 1191, .bool true, .int (181) 0, .ref 1192, .none, .ref 1193, .ref 1194, .ref 1195, .int (1917) 0, .int (724) 0, .str "/claim/cut.py" 1918].toArray, [].toArray⟩),
  (1337, ⟨.type "function", none, .func ⟨"__init__", "Notary.__init__", defArgs s_Notary_init, .stmts (defBody s_Notary_init), defScope s_Notary_init, 3, [], .none, .none, .none, .str "vaultbridge.notary" 2081, none, .ref 1336, .none, 0⟩, [].toArray⟩),
  (1336, ⟨.type "code", none, .fields [.str "__init__" 2095, .str "Notary.__init__" 2096, .str "/claim/cut.py" 2097, .int (807) 0, .int (1) 0, .int (0) 0, .int (0) 0, .int (3) 0, .ref 1331, .bool true, .int (181) 0, .ref 1332, .none, .ref 1333, .ref 1334, .ref 1335, .int (2099) 0, .int (807) 0, .str "/claim/cut.py" 2100].toArray, [].toArray⟩),
  (1384, ⟨.type "function", none, .func ⟨"_law_pot", "_law_pot", defArgs s_L_pot, .stmts (defBody s_L_pot), defScope s_L_pot, 3, [], .none, .none, .none, .str "law_vaultbridge_k39_shares" 2152, none, .ref 1383, .none, 0⟩, [].toArray⟩),
  (1383, ⟨.type "code", none, .fields [.str "_law_pot" 2154, .str "_law_pot" 2155, .str "/claim/cut.py" 2156, .int (841) 0, .int (1) 0, .int (0) 0, .int (0) 0, .int (3) 0, .ref 1378, .bool true, .int (181) 0, .ref 1379, .none, .ref 1380, .ref 1381, .ref 1382, .int (2160) 0, .int (841) 0, .str "/claim/cut.py" 2161].toArray, [].toArray⟩),
  (1391, ⟨.type "function", none, .func ⟨"_law_next", "_law_next", defArgs s_L_next, .stmts (defBody s_L_next), defScope s_L_next, 3, [], .none, .none, .none, .str "law_vaultbridge_k39_shares" 2152, none, .ref 1390, .none, 0⟩, [].toArray⟩),
  (1390, ⟨.type "code", none, .fields [.str "_law_next" 2163, .str "_law_next" 2164, .str "/claim/cut.py" 2165, .int (846) 0, .int (2) 0, .int (0) 0, .int (0) 0, .int (3) 0, .ref 1385, .bool true, .int (181) 0, .ref 1386, .none, .ref 1387, .ref 1388, .ref 1389, .int (2171) 0, .int (846) 0, .str "/claim/cut.py" 2172].toArray, [].toArray⟩),
  (1403, ⟨.type "function", none, .func ⟨"_law_set", "_law_set", defArgs s_L_set, .stmts (defBody s_L_set), defScope s_L_set, 3, [], .none, .none, .none, .str "law_vaultbridge_k39_shares" 2152, none, .ref 1402, .none, 0⟩, [].toArray⟩)]
def KK3 (P : Params) : PySem.W.Frag := [(1402, ⟨.type "code", none, .fields [.str "_law_set" 2181, .str "_law_set" 2182, .str "/claim/cut.py" 2183, .int (862) 0, .int (2) 0, .int (0) 0, .int (0) 0, .int (3) 0, .ref 1399, .bool true, .int (181) 0, .ref 1400, .none, .none, .none, .ref 1401, .int (2184) 0, .int (862) 0, .str "/claim/cut.py" 2185].toArray, [].toArray⟩),
  (1410, ⟨.type "function", none, .func ⟨"_law_config", "_law_config", defArgs s_L_config, .stmts (defBody s_L_config), defScope s_L_config, 3, [], .none, .none, .none, .str "law_vaultbridge_k39_shares" 2152, none, .ref 1409, .none, 0⟩, [].toArray⟩),
  (1409, ⟨.type "code", none, .fields [.str "_law_config" 2187, .str "_law_config" 2188, .str "/claim/cut.py" 2189, .int (868) 0, .int (1) 0, .int (0) 0, .int (0) 0, .int (3) 0, .ref 1404, .bool true, .int (181) 0, .ref 1405, .none, .ref 1406, .ref 1407, .ref 1408, .int (2197) 0, .int (868) 0, .str "/claim/cut.py" 2198].toArray, [].toArray⟩),
  (1417, ⟨.type "function", none, .func ⟨"_law_made", "_law_made", defArgs s_L_made, .stmts (defBody s_L_made), defScope s_L_made, 3, [], .none, .none, .none, .str "law_vaultbridge_k39_shares" 2152, none, .ref 1416, .none, 0⟩, [].toArray⟩),
  (1416, ⟨.type "code", none, .fields [.str "_law_made" 2200, .str "_law_made" 2201, .str "/claim/cut.py" 2202, .int (879) 0, .int (1) 0, .int (0) 0, .int (0) 0, .int (3) 0, .ref 1411, .bool true, .int (181) 0, .ref 1412, .none, .ref 1413, .ref 1414, .ref 1415, .int (2204) 0, .int (879) 0, .str "/claim/cut.py" 2205].toArray, [].toArray⟩),
  (1463, ⟨.type "function", none, .func ⟨"_law_refused", "_law_refused", defArgs s_L_refused, .stmts (defBody s_L_refused), defScope s_L_refused, 3, [], .none, .none, .none, .str "law_vaultbridge_k39_shares" 2152, none, .ref 1462, .none, 0⟩, [].toArray⟩),
  (1462, ⟨.type "code", none, .fields [.str "_law_refused" 2252, .str "_law_refused" 2253, .str "/claim/cut.py" 2254, .int (933) 0, .int (2) 0, .int (0) 0, .int (0) 0, .int (3) 0, .ref 1457, .bool true, .int (181) 0, .ref 1458, .none, .ref 1459, .ref 1460, .ref 1461, .int (2258) 0, .int (933) 0, .str "/claim/cut.py" 2259].toArray, [].toArray⟩),
  (1468, ⟨.type "function", none, .func ⟨"_law_due", "_law_due", defArgs s_L_due, .stmts (defBody s_L_due), defScope s_L_due, 3, [], .none, .none, .none, .str "law_vaultbridge_k39_shares" 2152, none, .ref 1467, .none, 0⟩, [].toArray⟩),
  (1467, ⟨.type "code", none, .fields [.str "_law_due" 2261, .str "_law_due" 2262, .str "/claim/cut.py" 2263, .int (939) 0, .int (2) 0, .int (0) 0, .int (0) 0, .int (3) 0, .ref 1464, .bool true, .int (181) 0, .ref 1465, .none, .none, .none, .ref 1466, .int (2264) 0, .int (939) 0, .str "/claim/cut.py" 2265].toArray, [].toArray⟩),
  (1473, ⟨.type "function", none, .func ⟨"law", "law", defArgs s_law, .stmts (defBody s_law), defScope s_law, 3, [], .none, .none, .none, .str "law_vaultbridge_k39_shares" 2152, none, .ref 1472, .none, 0⟩, [].toArray⟩),
  (1472, ⟨.type "code", none, .fields [.str "law" 2267, .str "law" 2268, .str "/claim/cut.py" 2269, .int (951) 0, .int (1) 0, .int (0) 0, .int (0) 0, .int (3) 0, .ref 1469, .bool true, .int (181) 0, .ref 1470, .none, .none, .none, .ref 1471, .int (2270) 0, .int (951) 0, .str "/claim/cut.py" 2271].toArray, [].toArray⟩),
  (787, ⟨.type "dict", none, .dict [⟨PyData.keyHash P "pay", .str "pay" 1338, .ref 637⟩, ⟨PyData.keyHash P "send", .str "send" 1339, .ref 644⟩, ⟨PyData.keyHash P "take", .str "take" 1340, .ref 779⟩, ⟨PyData.keyHash P "claim", .str "claim" 1341, .ref 786⟩, ⟨PyData.keyHash P "bond", .str "bond" 1342, .ref 651⟩, ⟨PyData.keyHash P "unbond", .str "unbond" 1343, .ref 656⟩, ⟨PyData.keyHash P "accuse", .str "accuse" 1344, .ref 661⟩].toArray 7, [].toArray⟩),
  (788, ⟨.type "dict", none, .dict [⟨PyData.keyHash P "pay", .str "pay" 1353, .int (5) 1354⟩, ⟨PyData.keyHash P "send", .str "send" 1355, .int (7) 1356⟩, ⟨PyData.keyHash P "take", .str "take" 1357, .int (4) 1358⟩, ⟨PyData.keyHash P "claim", .str "claim" 1359, .int (3) 1360⟩, ⟨PyData.keyHash P "bond", .str "bond" 1361, .int (4) 1362⟩, ⟨PyData.keyHash P "unbond", .str "unbond" 1363, .int (4) 1364⟩, ⟨PyData.keyHash P "accuse", .str "accuse" 1365, .int (4) 1366⟩].toArray 7, [].toArray⟩),
  (378, ⟨.type "tuple", none, .seq [.str "west" 665, .str "east" 666].toArray 0, [].toArray⟩)]
def KK (P : Params) : PySem.W.Frag := KK0 P ++ (KK1 P ++ (KK2 P ++ (KK3 P)))
def kas0 : List Addr := [3, 2, 38, 37, 51, 50, 373, 372, 560, 559, 929, 928, 1186, 1185, 1319, 1318, 1373, 1372, 274, 273, 279, 278, 385, 384, 392, 391, 399, 398, 406, 405, 413, 412, 420, 419, 427, 426, 434, 433, 475, 474]
def kas1 : List Addr := [468, 489, 488, 496, 495, 503, 502, 522, 521, 529, 528, 536, 535, 543, 542, 550, 549, 557, 556, 571, 570, 578, 577, 585, 584, 592, 591, 630, 629, 651, 650, 795, 794, 809, 808, 837, 836, 844, 843, 851]
def kas2 : List Addr := [850, 858, 857, 865, 864, 870, 869, 905, 904, 919, 918, 938, 937, 945, 944, 952, 951, 959, 958, 973, 972, 980, 979, 1029, 1028, 1071, 1070, 1092, 1091, 1127, 1126, 1197, 1196, 1337, 1336, 1384, 1383, 1391, 1390, 1403]
def kas3 : List Addr := [1402, 1410, 1409, 1417, 1416, 1463, 1462, 1468, 1467, 1473, 1472, 787, 788, 378]
def kas : List Addr := kas0 ++ (kas1 ++ (kas2 ++ (kas3)))
def KKT (P : Params) : PySem.W.Frag := (271, ({ cls := .none, data := .fields #[] } : Obj)) :: KK P
def kasT : List Addr := 271 :: kas
abbrev RR : PySem.W.OpenRow := PySem.W.OpenLaw.row PySem.Challenge.rw_vaultbridge_k39_shares
abbrev qv : Program := PySem.W.view RR.prog [131]
def nml0 : List PySem.Str := ["_wall", "__name__", "BridgeError", "InvalidArgument", "InvalidOrder", "UnknownToken", "NotEnoughBalance", "NotEnoughWeight", "WrongSide", "WrongNumber", "AlreadyTaken", "UnknownTransfer", "LimitReached", "Stopped", "UnknownParent", "UnknownBlock", "DuplicateBlock", "ConflictsWithFinal", "UnknownSeal", "TooEarly", "StillOnDuty", "NothingBonded", "shares", "next_set", "Blocks", "SIDES", "ACCOUNT_LENGTH", "FIRST_CODE", "LAST_CODE", "BARRED_CODE"]
def nml1 : List PySem.Str := ["is_integer", "is_at_least", "is_text", "is_short_text", "is_account", "is_side", "is_set", "is_pair", "total", "threshold", "minority", "TOKEN_LENGTH", "MOST_IN_BUNDLE", "other_side", "Config", "check_list", "check_least", "check_token_row", "check_balance_row", "ABOUT_ONE", "ABOUT_ALL", "MOST_TRANSFERS", "is_transfer", "is_bundle", "is_letter", "key", "FROM_OTHER_SIDE", "OF_THIS_SIDE", "NOT_WHEN_STOPPED", "check_amount"]
def nml2 : List PySem.Str := ["do_pay", "do_send", "do_bond", "do_unbond", "do_accuse", "sets_in_use", "check_backed", "check_current", "check_vault", "give", "is_beyond_limit", "deliver", "refuse", "accept", "take_deliver", "take_bundle", "take_cancel", "take_return", "take_rotate", "take_stop", "take_resume", "LETTERS", "do_take", "do_claim", "ORDERS", "PARTS", "word_of", "named_seals", "outcome", "next_height"]
def nml3 : List PySem.Str := ["after_block", "Sheet", "copied", "held", "put", "draw", "DELIVERED", "REFUSED", "WAITING", "State", "opening_state", "FIRST", "Chain", "Notary", "_law_pot", "_law_next", "_law_is_int", "_law_set", "_law_config", "_law_made", "_law_total", "_law_threshold", "_law_liars", "_law_is_good", "_law_accounts", "_law_blind_order", "_law_ledger", "_law_refused", "_law_due"]
def nms : List PySem.Str := nml0 ++ (nml1 ++ (nml2 ++ (nml3)))
abbrev hk : PySem.W.Hook := PySem.W.kHook KKT kasT (fun _ => rfl)
def obs (s : PySem.W.SharedT) : List (Option Obj) := kasT.map (HandSHeadRun.getT s)
theorem obs_eq (s : PySem.W.SharedT) : obs s = hk.obs s.abs := congrArg (fun g => kasT.map g) (funext (HandSHeadRun.getT_eq s))
theorem runF (w : World) : HandSHeadRun.RunEq RR qv hk obs 30000 nms (w.withFollow "special-get-raises" false) := by
  intro os
  kernel_rfl
theorem runT (w : World) : HandSHeadRun.RunEq RR qv hk obs 30000 nms (w.withFollow "special-get-raises" true) := by
  intro os
  kernel_rfl
theorem run (w : World) : HandSHeadRun.RunEq RR qv hk obs 30000 nms w := PySem.W.byRow2 "special-get-raises" (P := fun w => HandSHeadRun.RunEq RR qv hk obs 30000 nms w) runF runT w

/-! readings, one step a lemma -/
section
open PySem PySem.Spec PyProof.Rows L2
variable {K : PySem.W.Frag} {σ : L2.St} {H H1 H' : Hp} {Q : VK} {D : Ends} {t u : TS} {ta tb tc te : TE} {tt tu : TT} {tr : TA} {g : TG} {v x y : V} {i j : Int} {a b p l : Addr} {xs ys : List V} {o : HO}

/-! heaps -/
theorem upd_new {c : Addr} {w : HO} (hb : H b = none) (h : H c = some o) : upd H b w c = some o := by
  rw [upd_ne (ne_of_none h hb)]; exact h
theorem upd_other {c : Addr} {w : HO} (hb : c ≠ b) (h : H c = some o) : upd H b w c = some o := by
  rw [upd_ne hb]; exact h
theorem upd_free {c : Addr} {w : HO} (hb : c ≠ b) (h : H c = none) : upd H b w c = none := by
  rw [upd_ne hb]; exact h
theorem upd_none_ne {c : Addr} {w : HO} (h : upd H b w c = none) : c ≠ b := fun e => by rw [e, upd_same] at h; cases h
theorem upd_none_back {c : Addr} {w : HO} (h : upd H b w c = none) : H c = none := by rw [upd_ne (upd_none_ne h)] at h; exact h
/-- everything but p stays -/
def Kp (p : Addr) (H H' : Hp) : Prop := ∀ b o, H b = some o → b ≠ p → H' b = some o
theorem Kp.get {c : Addr} (k : Kp p H H') (h : H c = some o) (n : c ≠ p) : H' c = some o := k c o h n
theorem Kp.refl : Kp p H H := fun _ _ h _ => h
theorem Kp.trans (k : Kp p H H1) (k2 : Kp p H1 H') : Kp p H H' := fun b o h n => k2 b o (k b o h n) n
theorem Kp.upd {w : HO} (k : Kp p H H') : Kp p H (upd H' p w) := fun b o h n => upd_other n (k b o h n)
theorem Kp.new {w : HO} (k : Kp p H H') (h : H a = none) : Kp p H (L2.upd H' a w) := fun b o hb n => upd_other (ne_of_none hb h) (k b o hb n)
theorem Kp.fresh (k : Kp p H H') (hp : H p = some o) (h : H' a = none) (n : a ≠ p) : H a = none := by
  cases q : H a with
  | none => rfl
  | some w => rw [k a w q n] at h; cases h
theorem Same.get {c : Addr} (k : Same H H') (h : H c = some o) : H' c = some o := k c o h
theorem Same.new {w : HO} (k : Same H H') (h : H a = none) : Same H (L2.upd H' a w) := fun b o hb => upd_other (ne_of_none hb h) (k b o hb)
theorem Same.up {w : HO} (k : Same H H') (h : H' a = none) : Same H (L2.upd H' a w) := Same.new k (Same.free k h)
theorem Same.kp (k : Same H H') : Kp p H H' := fun b o h _ => k b o h
theorem sqL (h : H a = some (.lst xs)) : SqL K H a xs := .inl (.inl h)
theorem sqT (h : H a = some (.tup xs)) : SqT K H a xs := .inl (.inl h)

/-- a tuple of the written part -/
def SqTK (K : PySem.W.Frag) (a : Addr) (xs : List V) : Prop := ∃ (o : Obj) (its : Array Value) (n : Nat), K.lookup a = some o ∧ o.cls = .type "tuple" ∧ o.data = .seq its n ∧ its.size ≤ sizeLine ∧ Vals xs its.toList
theorem SqTK.sq {xs : List V} (h : SqTK K a xs) : SqT K H a xs := .inr h
def relB : V → Value → Bool
  | .str x, .str z _ => decide (x = z)
  | .int i, .int k _ => decide (i = k)
  | _, _ => false
theorem relB_rel : ∀ {x : V} {u : Value}, relB x u = true → RelV x u := by
  intro x u h
  cases x <;> cases u <;> first | (cases h; done) | skip
  · have e := of_decide_eq_true h
    subst e
    exact ⟨_, rfl⟩
  · have e := of_decide_eq_true h
    subst e
    exact ⟨_, rfl⟩
def ValsB : List V → List Value → Bool
  | [], [] => true
  | x :: xs, u :: us => relB x u && ValsB xs us
  | _, _ => false
theorem ValsB.vals : ∀ {xs : List V} {us : List Value}, ValsB xs us = true → Vals xs us
  | [], [], _ => .nil
  | [], _ :: _, h => by cases h
  | _ :: _, [], h => by cases h
  | x :: xs, u :: us, h => by
    have h : (relB x u && ValsB xs us) = true := h
    rw [Bool.and_eq_true] at h
    exact .cons (relB_rel h.1) (ValsB.vals h.2)
theorem ValsB.size {xs : List V} {its : Array Value} (h : ValsB xs its.toList = true) (hl : xs.length ≤ sizeLine) : its.size ≤ sizeLine := by
  have e := (ValsB.vals h).length
  have : its.toList.length = its.size := rfl
  omega
theorem hr65 {A : Around} {k : Nat} (hr : Room k A) : A.units + 65 < cLine := by have := hr.un; omega
theorem Same.sqT {xs : List V} (e : Same H H') (h : SqT K H a xs) : SqT K H' a xs := by
  rcases h with (h | ⟨o, h⟩) | h
  · exact .inl (.inl (e _ _ h))
  · exact .inl (.inr ⟨o, e _ _ h⟩)
  · exact .inr h
/-! statements -/
theorem q_seq (h : t { D with nx := u D } σ H) : tSeq t u D σ H := h
theorem q_next (h : D.nx σ H) : tNext D σ H := h
theorem q_brk (h : D.bk σ H) : tBreak D σ H := h
theorem q_ct (h : D.ct σ H) : tCont D σ H := h
theorem q_nx {f : L2.St → Hp → Prop} {r : VK} {b c : L2.St → Hp → Prop} (h : f σ H) : Ends.nx ⟨f, r, b, c⟩ σ H := h
theorem q_bk {f : L2.St → Hp → Prop} {r : VK} {b c : L2.St → Hp → Prop} (h : b σ H) : Ends.bk ⟨f, r, b, c⟩ σ H := h
theorem q_cn {f : L2.St → Hp → Prop} {r : VK} {b c : L2.St → Hp → Prop} (h : c σ H) : Ends.ct ⟨f, r, b, c⟩ σ H := h
theorem q_rt {f : L2.St → Hp → Prop} {r : VK} {b c : L2.St → Hp → Prop} (h : r v H) : Ends.rt ⟨f, r, b, c⟩ v H := h
theorem q_drop (h : te σ H fun _ H1 => D.nx σ H1) : tDrop te D σ H := h
theorem q_ret (h : te σ H D.rt) : tRet te D σ H := h
theorem q_retN (h : D.rt .non H) : tRetN D σ H := h
def ifK (D : Ends) (t u : TS) (σ : L2.St) : Bool → Hp → Prop := fun b H => if b = true then t D σ H else u D σ H
theorem q_ifS (h : tt σ H (ifK D t u σ)) : tIfS tt t u D σ H := h
theorem q_ifT (h : t D σ H) : ifK D t u σ true H := iteT h
theorem q_ifF (h : u D σ H) : ifK D t u σ false H := iteF h
theorem q_if2 {c : Bool} (h : c = true → t D σ H) (h2 : c = false → u D σ H) : ifK D t u σ c H := by
  cases c with
  | true => exact iteT (h rfl)
  | false => exact iteF (h2 rfl)
theorem q_asg (h : te σ H fun x H1 => g x σ H1 D.nx) : tAsg te g D σ H := h
theorem q_gName {n : Nat} {R : L2.St → Hp → Prop} (h : R (σ.set n (some v)) H) : gName n v σ H R := h
theorem q_gTup {n : Nat} {tg : TGs} {R : L2.St → Hp → Prop} (h : SqT K H a xs) (hn : xs.length = n) (k : tg xs σ H R) : gTup K n tg (.ref a) σ H R := ⟨a, xs, rfl, h, hn, k⟩
theorem q_gCons {tg : TGs} {R : L2.St → Hp → Prop} (k : g v σ H fun σ' H' => tg xs σ' H' R) : gCons g tg (v :: xs) σ H R := ⟨v, xs, rfl, k⟩
theorem q_gNil {R : L2.St → Hp → Prop} (k : R σ H) : gNil [] σ H R := ⟨rfl, k⟩
theorem q_gSub {to ti : TE} {ts : TSet} {R : L2.St → Hp → Prop} (k : to σ H fun o H1 => ti σ H1 fun i H2 => ts o i v H2 fun H3 => R σ H3) : gSub to ti ts v σ H R := k
theorem q_setL {R : Hp → Prop} {n : Nat} (h : H p = some (.lst xs)) (hi : ixN xs.length i = some n) (k : R (upd H p (.lst (xs.set n v)))) : rSetL (.ref p) (.int i) v H R := ⟨p, xs, i, n, rfl, rfl, h, hi, k⟩
theorem q_aug {n : Nat} {ti : TIp} (hx : σ[n]? = some (some x)) (h : te σ H fun y H1 => ti x y H1 fun z H2 => D.nx (σ.set n (some z)) H2) : tAug n te ti D σ H := ⟨x, hx, h⟩
theorem q_ipI {f : Int → Int → Int} (k : Q (.int (f i j)) H) : ipI f (.int i) (.int j) H Q := ⟨i, j, rfl, rfl, k⟩
theorem q_cut {Mid : L2.St → Hp → Prop} (h : t { D with nx := Mid } σ H) (k : ∀ σ' H', Mid σ' H' → u D σ' H') : Evl.tCut t u D σ H := ⟨Mid, h, k⟩
theorem dec_t {c : Prop} [Decidable c] (h : decide c = true) : c := of_decide_eq_true h
theorem dec_f {c : Prop} [Decidable c] (h : decide c = false) : ¬ c := of_decide_eq_false h
theorem ndec_t {c : Prop} [Decidable c] (h : (!decide c) = true) : ¬ c := fun q => by rw [decide_eq_true q] at h; cases h
theorem ndec_f {c : Prop} [Decidable c] (h : (!decide c) = false) : c := by
  by_cases q : c
  · exact q
  · rw [decide_eq_false q] at h; cases h
def forK (g : TG) (tb : TS) (D : Ends) (σ : L2.St) : It → Hp → Prop := fun J H1 => ∃ W : Nat → Nat → L2.St → Hp → Prop, (∃ m, W 0 m σ H1) ∧ ∀ i m σ H, W i m σ H →
  (J.stop i H ∧ D.nx σ H) ∨ (J.go i H ∧ ∃ N : L2.St → Hp → Prop, (∀ σ' H', N σ' H' → ∃ m', m' < m ∧ W (i + 1) m' σ' H') ∧ ∀ x H', J.yld i H x H' → g x σ H' fun σ2 H2 => tb { D with nx := N, ct := N, bk := D.nx } σ2 H2)
theorem q_for {wi : TI} (h : wi σ H (forK g t D σ)) : tFor wi g t D σ H := h
theorem q_iList {R : It → Hp → Prop} (h : te σ H fun x H1 => ∃ a, x = .ref a ∧ (∃ xs, SqL K H1 a xs) ∧ R (Itl K a) H1) : iList K te σ H R := h
theorem q_iTup {R : It → Hp → Prop} (h : te σ H fun x H1 => ∃ a, x = .ref a ∧ (∃ xs, SqT K H1 a xs) ∧ R (Itt K a) H1) : iTup K te σ H R := h
theorem q_forL {S : List V} (h : SqL K H a S) (Pv : Nat → L2.St → Hp → Prop) (h0 : Pv 0 σ H) (hl : ∀ i σ H, i ≤ S.length → Pv i σ H → SqL K H a S)
    (hs : ∀ i x σ H, S[i]? = some x → Pv i σ H → g x σ H fun σ2 H2 => t { D with nx := Pv (i + 1), ct := Pv (i + 1), bk := D.nx } σ2 H2) (hd : ∀ σ H, Pv S.length σ H → D.nx σ H) :
    ∃ b, V.ref a = .ref b ∧ (∃ xs, SqL K H b xs) ∧ forK g t D σ (Itl K b) H := ⟨a, rfl, ⟨S, h⟩, for_list Pv h0 hl hs hd⟩
theorem q_forT {S : List V} (h : SqT K H a S) (Pv : Nat → L2.St → Hp → Prop) (h0 : Pv 0 σ H) (hl : ∀ i σ H, i ≤ S.length → Pv i σ H → SqT K H a S)
    (hs : ∀ i x σ H, S[i]? = some x → Pv i σ H → g x σ H fun σ2 H2 => t { D with nx := Pv (i + 1), ct := Pv (i + 1), bk := D.nx } σ2 H2) (hd : ∀ σ H, Pv S.length σ H → D.nx σ H) :
    ∃ b, V.ref a = .ref b ∧ (∃ xs, SqT K H b xs) ∧ forK g t D σ (Itt K b) H := ⟨a, rfl, ⟨S, h⟩, for_tup Pv h0 hl hs hd⟩
def rg1K (R : It → Hp → Prop) : List V → Hp → Prop := fun vs H1 => ∃ j : Int, vs = [.int j] ∧ -(2 ^ 62) ≤ j ∧ j < 2 ^ 62 ∧ R (Itr 0 j.toNat) H1
theorem q_iRng1 {R : It → Hp → Prop} (h : tr σ H (rg1K R)) : iRng1 tr σ H R := h
theorem q_forR (hj : 0 ≤ j ∧ j < 1000000000000000) (Pv : Nat → L2.St → Hp → Prop) (h0 : Pv 0 σ H)
    (hs : ∀ (i : Nat) σ H, (i : Int) < j → Pv i σ H → g (.int i) σ H fun σ2 H2 => t { D with nx := Pv (i + 1), ct := Pv (i + 1), bk := D.nx } σ2 H2) (hd : ∀ σ H, Pv j.toNat σ H → D.nx σ H) :
    rg1K (forK g t D σ) [.int j] H := ⟨j, rfl, by omega, by omega, for_range Pv h0 (fun i σ H hi hp => by have e : (0 : Int) + (i : Int) = (i : Int) := Int.zero_add _; rw [e]; exact hs i σ H (by omega) hp) hd⟩

/-! tests and values -/
def bK (Q : Bool → Hp → Prop) : VK := fun x H => ∃ k, x = .bl k ∧ Q k H
theorem q_test {R : Bool → Hp → Prop} (h : te σ H (bK R)) : tTest te σ H R := h
theorem q_tB {R : Bool → Hp → Prop} (h : te σ H (bK R)) : tB te σ H R := h
theorem q_bK {R : Bool → Hp → Prop} {c : Bool} (k : R c H) : bK R (.bl c) H := ⟨c, rfl, k⟩
def andK (u : TT) (σ : L2.St) (R : Bool → Hp → Prop) : Bool → Hp → Prop := fun c H1 => if c = true then u σ H1 R else R false H1
def orK (u : TT) (σ : L2.St) (R : Bool → Hp → Prop) : Bool → Hp → Prop := fun c H1 => if c = true then R true H1 else u σ H1 R
theorem q_and {R : Bool → Hp → Prop} (h : tt σ H (andK tu σ R)) : tAnd tt tu σ H R := h
theorem q_or {R : Bool → Hp → Prop} (h : tt σ H (orK tu σ R)) : tOr tt tu σ H R := h
theorem q_andT {R : Bool → Hp → Prop} (h : tu σ H R) : andK tu σ R true H := iteT h
theorem q_andF {R : Bool → Hp → Prop} (h : R false H) : andK tu σ R false H := iteF h
theorem q_orT {R : Bool → Hp → Prop} (h : R true H) : orK tu σ R true H := iteT h
theorem q_orF {R : Bool → Hp → Prop} (h : tu σ H R) : orK tu σ R false H := iteF h
theorem q_and2 {R : Bool → Hp → Prop} {c : Bool} (h : c = true → tu σ H R) (h2 : c = false → R false H) : andK tu σ R c H := by
  cases c with
  | true => exact iteT (h rfl)
  | false => exact iteF (h2 rfl)
theorem q_or2 {R : Bool → Hp → Prop} {c : Bool} (h : c = true → R true H) (h2 : c = false → tu σ H R) : orK tu σ R c H := by
  cases c with
  | true => exact iteT (h rfl)
  | false => exact iteF (h2 rfl)
def notK (R : Bool → Hp → Prop) : Bool → Hp → Prop := fun c H1 => R (!c) H1
theorem q_not {R : Bool → Hp → Prop} (h : tt σ H (notK R)) : tNot tt σ H R := h
theorem q_notKT {R : Bool → Hp → Prop} (h : R false H) : notK R true H := h
theorem q_notKF {R : Bool → Hp → Prop} (h : R true H) : notK R false H := h
theorem q_notK {R : Bool → Hp → Prop} {c : Bool} (h : R (!c) H) : notK R c H := h
def andVK (tb : TE) (σ : L2.St) (Q : VK) : VK := fun x H1 => ∃ c, x = .bl c ∧ if c = true then tb σ H1 Q else Q (.bl false) H1
def orVK (tb : TE) (σ : L2.St) (Q : VK) : VK := fun x H1 => ∃ c, x = .bl c ∧ if c = true then Q (.bl true) H1 else tb σ H1 Q
theorem q_andV (h : ta σ H (andVK tb σ Q)) : tAndV ta tb σ H Q := h
theorem q_orV (h : ta σ H (orVK tb σ Q)) : tOrV ta tb σ H Q := h
theorem q_andVT (h : tb σ H Q) : andVK tb σ Q (.bl true) H := ⟨true, rfl, iteT h⟩
theorem q_andVF (h : Q (.bl false) H) : andVK tb σ Q (.bl false) H := ⟨false, rfl, iteF h⟩
theorem q_orVT (h : Q (.bl true) H) : orVK tb σ Q (.bl true) H := ⟨true, rfl, iteT h⟩
theorem q_orVF (h : tb σ H Q) : orVK tb σ Q (.bl false) H := ⟨false, rfl, iteF h⟩
theorem q_andV2 {c : Bool} (h : c = true → tb σ H Q) (h2 : c = false → Q (.bl false) H) : andVK tb σ Q (.bl c) H := by
  cases c with
  | true => exact q_andVT (h rfl)
  | false => exact q_andVF (h2 rfl)
theorem q_orV2 {c : Bool} (h : c = true → Q (.bl true) H) (h2 : c = false → tb σ H Q) : orVK tb σ Q (.bl c) H := by
  cases c with
  | true => exact q_orVT (h rfl)
  | false => exact q_orVF (h2 rfl)
def notVK (Q : VK) : VK := fun x H1 => ∃ c, x = .bl c ∧ Q (.bl (!c)) H1
theorem q_notV (h : ta σ H (notVK Q)) : tNotV ta σ H Q := h
theorem q_notVK {c : Bool} (k : Q (.bl (!c)) H) : notVK Q (.bl c) H := ⟨c, rfl, k⟩
def ifEK (ta tb : TE) (σ : L2.St) (Q : VK) : Bool → Hp → Prop := fun c H1 => if c = true then ta σ H1 Q else tb σ H1 Q
theorem q_ifE (h : tt σ H (ifEK ta tb σ Q)) : tIf tt ta tb σ H Q := h
theorem q_ifET (h : ta σ H Q) : ifEK ta tb σ Q true H := iteT h
theorem q_ifEF (h : tb σ H Q) : ifEK ta tb σ Q false H := iteF h
theorem q_ifE2 {c : Bool} (h : c = true → ta σ H Q) (h2 : c = false → tb σ H Q) : ifEK ta tb σ Q c H := by
  cases c with
  | true => exact iteT (h rfl)
  | false => exact iteF (h2 rfl)
theorem q_yes {R : Bool → Hp → Prop} (k : R true H) : tYes σ H R := k
theorem q_var {n : Nat} (h : σ[n]? = some (some v)) (k : Q v H) : tVar n σ H Q := ⟨v, h, k⟩
theorem q_c (k : Q v H) : tC v σ H Q := k
theorem q_op {r : R2} (h : ta σ H fun x H1 => tb σ H1 fun y H2 => r x y H2 Q) : tOp r ta tb σ H Q := h
theorem q_un {r : V → Hp → VK → Prop} (h : ta σ H fun x H1 => r x H1 Q) : tUn r ta σ H Q := h
theorem q_rU {f : Int → V} (k : Q (f i) H) : rU f (.int i) H Q := ⟨i, rfl, k⟩
theorem q_I0 {f : Int → Int → V} (k : Q (f i j) H) : rI0 f (.int i) (.int j) H Q := ⟨i, j, rfl, rfl, k⟩
theorem q_I {C : Int → Int → Prop} {f : Int → Int → V} (hc : C i j) (k : Q (f i j) H) : rI C f (.int i) (.int j) H Q := ⟨i, j, rfl, rfl, hc, k⟩
theorem q_eq (hs : scal x y = true) (k : Q (.bl (decide (x = y))) H) : rEq x y H Q := ⟨hs, k⟩
theorem q_ne (hs : scal x y = true) (k : Q (.bl (!decide (x = y))) H) : rNe x y H Q := ⟨hs, k⟩
theorem dec_int (i j : Int) : decide (V.int i = V.int j) = decide (i = j) := by
  by_cases h : i = j
  · subst h; simp
  · rw [decide_eq_false h, decide_eq_false (fun e => h (V.int.inj e))]
theorem q_eqI (k : Q (.bl (decide (i = j))) H) : rEq (.int i) (.int j) H Q := ⟨rfl, by rw [dec_int]; exact k⟩
theorem q_neI (k : Q (.bl (!decide (i = j))) H) : rNe (.int i) (.int j) H Q := ⟨rfl, by rw [dec_int]; exact k⟩
theorem dec_str (i j : Str) : decide (V.str i = V.str j) = decide (i = j) := by
  by_cases h : i = j
  · subst h; simp
  · rw [decide_eq_false h, decide_eq_false (fun e => h (V.str.inj e))]
theorem q_eqS {s z : Str} (k : Q (.bl (decide (s = z))) H) : rEq (.str s) (.str z) H Q := ⟨rfl, by rw [dec_str]; exact k⟩
theorem q_neS {s z : Str} (k : Q (.bl (!decide (s = z))) H) : rNe (.str s) (.str z) H Q := ⟨rfl, by rw [dec_str]; exact k⟩
theorem q_ixL (h : SqL K H p xs) (ha : atI xs i = some v) (k : Q v H) : rIxL K (.ref p) (.int i) H Q := ⟨p, xs, i, v, rfl, rfl, h, ha, k⟩
theorem q_ixT (h : SqT K H p xs) (ha : atI xs i = some v) (k : Q v H) : rIxT K (.ref p) (.int i) H Q := ⟨p, xs, i, v, rfl, rfl, h, ha, k⟩
theorem q_ixLt (h : H p = some (.lst xs)) (ha : atI xs i = some v) (k : Q v H) : rIxL K (.ref p) (.int i) H Q := q_ixL (sqL h) ha k
theorem q_ixTt (h : H p = some (.tup xs)) (ha : atI xs i = some v) (k : Q v H) : rIxT K (.ref p) (.int i) H Q := q_ixT (sqT h) ha k
theorem q_ixSL (h : SqL K H p xs) (ha : atI xs i = some v) (k : Q v H) : rIx K (.ref p) (.int i) H Q := .inl ⟨p, xs, i, v, rfl, rfl, h, ha, k⟩
theorem q_ixST (h : SqT K H p xs) (ha : atI xs i = some v) (k : Q v H) : rIx K (.ref p) (.int i) H Q := .inr (.inl ⟨p, xs, i, v, rfl, rfl, h, ha, k⟩)
theorem at_int {α : Type} {xs : List α} {i : Int} {x : α} {n : Nat} (e : i = (n : Int)) (h : xs[n]? = some x) : atI xs i = some x := by rw [e]; exact atI_nat h
theorem q_tNil {R : List V → Hp → Prop} (k : R [] H) : tNil σ H R := k
theorem q_tCons {R : List V → Hp → Prop} (h : ta σ H fun x H1 => tr σ H1 fun xs H2 => R (x :: xs) H2) : tCons ta tr σ H R := h
def tupK (Q : VK) : List V → Hp → Prop := fun xs H1 => xs.length ≤ sizeLine ∧ ∀ p, H1 p = none → Q (.ref p) (upd H1 p (.tup xs))
def lstK (Q : VK) : List V → Hp → Prop := fun xs H1 => xs.length ≤ sizeLine ∧ ∀ p, H1 p = none → Q (.ref p) (upd H1 p (.lst xs))
theorem q_tup (h : tr σ H (tupK Q)) : tTup tr σ H Q := h
theorem q_lst (h : tr σ H (lstK Q)) : tLst tr σ H Q := h
theorem q_tupK (hl : xs.length ≤ sizeLine) (k : ∀ p, H p = none → Q (.ref p) (upd H p (.tup xs))) : tupK Q xs H := ⟨hl, k⟩
theorem q_lstK (hl : xs.length ≤ sizeLine) (k : ∀ p, H p = none → Q (.ref p) (upd H p (.lst xs))) : lstK Q xs H := ⟨hl, k⟩
theorem q_cb {r : List V → Hp → VK → Prop} (h : tr σ H fun vs H1 => r vs H1 Q) : tCB r tr σ H Q := h
def callK (sp : Sp) (dvs : List V) (E : XK) (Q : VK) : List V → Hp → Prop := fun vs H1 => sp (vs ++ dvs) H1 Q E
theorem q_call {sp : Sp} {dvs : List V} {E : XK} (h : tr σ H (callK sp dvs E Q)) : tCall sp dvs E tr σ H Q := h
theorem q_callK {sp : Sp} {E : XK} (h : sp xs H Q E) : callK sp [] E Q xs H := by unfold callK; rw [List.append_nil]; exact h

/-! built-ins, by names of our own -/
def rLenQ (K : PySem.W.Frag) : List V → Hp → VK → Prop := fun xs H Q => ∃ p ys, xs = [.ref p] ∧ (SqL K H p ys ∨ SqT K H p ys) ∧ Q (.int ys.length) H
theorem cq_len {X : Cx} : CallR X (.builtin "len") (rLenQ X.K) := call_len_seq
theorem q_lenL (h : SqL K H p xs) (k : Q (.int xs.length) H) : rLenQ K [.ref p] H Q := ⟨p, xs, rfl, .inl h, k⟩
theorem q_lenT (h : SqT K H p xs) (k : Q (.int xs.length) H) : rLenQ K [.ref p] H Q := ⟨p, xs, rfl, .inr h, k⟩
theorem q_lenLt (h : H p = some (.lst xs)) (k : Q (.int xs.length) H) : rLenQ K [.ref p] H Q := q_lenL (sqL h) k
theorem q_lenTt (h : H p = some (.tup xs)) (k : Q (.int xs.length) H) : rLenQ K [.ref p] H Q := q_lenT (sqT h) k
def rLenD : List V → Hp → VK → Prop := fun xs H Q => ∃ a kvs, xs = [V.ref a] ∧ H a = some (.dK kvs) ∧ Q (.int kvs.length) H
def rLenS : List V → Hp → VK → Prop := fun xs H Q => ∃ x : Str, xs = [.str x] ∧ x.length ≤ sizeLine ∧ Q (.int x.length) H
theorem cq_lenS {X : Cx} : CallR X (.builtin "len") rLenS := by
  intro pins s σ H xs us Q I r h
  obtain ⟨x, e, hl, q⟩ := h
  exact call_len pins s σ H xs us Q I r ⟨.str x, x.length, e, ⟨hl, rfl⟩, q⟩
theorem q_lenS {x : Str} (hl : x.length ≤ sizeLine) (k : Q (.int x.length) H) : rLenS [.str x] H Q := ⟨x, rfl, hl, k⟩
def rAbs : List V → Hp → VK → Prop := fun xs H Q => ∃ i, xs = [.int i] ∧ Q (.int (if i < 0 then -i else i)) H
theorem cq_abs {X : Cx} : CallR X (.builtin "abs") rAbs := call_abs
theorem q_abs (k : Q (.int (if i < 0 then -i else i)) H) : rAbs [.int i] H Q := ⟨i, rfl, k⟩
def rInt1 : List V → Hp → VK → Prop := fun xs H Q => (∃ i, xs = [.int i] ∧ Q (.int i) H) ∨ ∃ k, xs = [.bl k] ∧ Q (.int (if k then 1 else 0)) H
theorem cq_int1 {X : Cx} : CallR X (.type "int") rInt1 := call_int1
theorem q_int1 (k : Q (.int i) H) : rInt1 [.int i] H Q := .inl ⟨i, rfl, k⟩
def rStrInt : List V → Hp → VK → Prop := fun xs H Q => ∃ i, xs = [.int i] ∧ i.natAbs.log2 < 1920 ∧ Q (.str (toString i)) H
theorem cq_strInt {X : Cx} : CallR X (.type "str") rStrInt := call_str_int
theorem q_strInt (hb : i.natAbs.log2 < 1920) (k : Q (.str (toString i)) H) : rStrInt [.int i] H Q := ⟨i, rfl, hb, k⟩
def rListOf (K : PySem.W.Frag) : List V → Hp → VK → Prop := fun xs H Q => ∃ p ys, xs = [.ref p] ∧ (SqL K H p ys ∨ SqT K H p ys) ∧ ∀ l, H l = none → Q (.ref l) (upd H l (.lst ys))
theorem cq_listOf {X : Cx} : CallR X (.type "list") (rListOf X.K) := call_list_of
theorem q_listL (h : SqL K H p xs) (k : ∀ l, H l = none → Q (.ref l) (upd H l (.lst xs))) : rListOf K [.ref p] H Q := ⟨p, xs, rfl, .inl h, k⟩
theorem q_listT (h : SqT K H p xs) (k : ∀ l, H l = none → Q (.ref l) (upd H l (.lst xs))) : rListOf K [.ref p] H Q := ⟨p, xs, rfl, .inr h, k⟩
def rTupOf (K : PySem.W.Frag) : List V → Hp → VK → Prop := fun xs H Q => ∃ p ys, xs = [.ref p] ∧ ((SqL K H p ys ∧ ∀ l, H l = none → Q (.ref l) (upd H l (.tup ys))) ∨ (SqT K H p ys ∧ Q (.ref p) H))
theorem cq_tupOf {X : Cx} : CallR X (.type "tuple") (rTupOf X.K) := call_tuple_of
theorem q_tupL (h : SqL K H p xs) (k : ∀ l, H l = none → Q (.ref l) (upd H l (.tup xs))) : rTupOf K [.ref p] H Q := ⟨p, xs, rfl, .inl ⟨h, k⟩⟩
theorem q_sum {ns : List Int} (h : SqL K H a (ns.map V.int)) (k : Q (.int ns.sum) H) : rSum K [.ref a] H Q := ⟨a, ns, rfl, h, k⟩
theorem q_all {bs : List Bool} (h : SqL K H a (bs.map V.bl)) (k : Q (.bl (bs.all id)) H) : rAll K [.ref a] H Q := ⟨a, bs, rfl, h, k⟩
theorem q_any {bs : List Bool} (h : SqL K H a (bs.map V.bl)) (k : Q (.bl (bs.any id)) H) : rAny K [.ref a] H Q := ⟨a, bs, rfl, h, k⟩
def rAddStr : R2 := fun x y H Q => ∃ i j, x = .str i ∧ y = .str j ∧ i.length + j.length ≤ sizeLine ∧ Q (.str (i ++ j)) H
theorem oq_addStr {X : Cx} : OpR X (binaryOp .Add) rAddStr := op_add_str
theorem q_addStr {s z : Str} (hl : s.length + z.length ≤ sizeLine) (k : Q (.str (s ++ z)) H) : rAddStr (.str s) (.str z) H Q := ⟨s, z, rfl, rfl, hl, k⟩
theorem q_isN' (k : Q (.bl (decide (x = .non))) H) : rIsN x .non H Q := ⟨rfl, k⟩
theorem q_notN' (k : Q (.bl (!decide (x = .non))) H) : rNotN x .non H Q := ⟨rfl, k⟩
theorem q_inD {d : PyData} {ds : List PyData} (hd : Dp K H x d) (hy : Dp K H y (.list ds)) (s1 : SeqAt.shaped d = true) (s2 : SeqAt.shaped (.list ds) = true) (k : Q (.bl (ds.any fun z => PyData.eqv z d)) H) : rInD K x y H Q := ⟨d, ds, hd, hy, s1, s2, k⟩
theorem q_notInD {d : PyData} {ds : List PyData} (hd : Dp K H x d) (hy : Dp K H y (.list ds)) (s1 : SeqAt.shaped d = true) (s2 : SeqAt.shaped (.list ds) = true) (k : Q (.bl (!ds.any fun z => PyData.eqv z d)) H) : rNotInD K x y H Q := ⟨d, ds, hd, hy, s1, s2, k⟩
theorem q_ifNT (h : u D σ H) : ifK D t u σ (!true) H := q_ifF h
theorem q_ifNF (h : t D σ H) : ifK D t u σ (!false) H := q_ifT h
theorem q_andNT {R : Bool → Hp → Prop} (h : R false H) : andK tu σ R (!true) H := q_andF h
theorem q_andNF {R : Bool → Hp → Prop} (h : tu σ H R) : andK tu σ R (!false) H := q_andT h
theorem q_orNT {R : Bool → Hp → Prop} (h : tu σ H R) : orK tu σ R (!true) H := q_orF h
theorem q_orNF {R : Bool → Hp → Prop} (h : R true H) : orK tu σ R (!false) H := q_orT h
theorem q_bKNT {R : Bool → Hp → Prop} (h : R false H) : bK R (.bl (!true)) H := q_bK h
theorem q_bKNF {R : Bool → Hp → Prop} (h : R true H) : bK R (.bl (!false)) H := q_bK h
/-! chains, isinstance, texts, dicts -/
def chK2 (r' : R2) (y : V) (tc : TE) (σ : L2.St) (Q : VK) : VK := fun z H3 => ∃ k, z = .bl k ∧ (if k = true then tc σ H3 fun w' H4 => r' y w' H4 Q else Q (.bl false) H3)
theorem q_chain {r r' : R2} (h : ta σ H fun x H1 => tb σ H1 fun y H2 => r x y H2 (chK2 r' y tc σ Q)) : tChain r r' ta tb tc σ H Q := h
theorem q_chT {r' : R2} (h : tc σ H fun w' H4 => r' y w' H4 Q) : chK2 r' y tc σ Q (.bl true) H := ⟨true, rfl, iteT h⟩
theorem q_chF {r' : R2} (h : Q (.bl false) H) : chK2 r' y tc σ Q (.bl false) H := ⟨false, rfl, iteF h⟩
theorem q_ch2 {r' : R2} {c : Bool} (h : c = true → tc σ H fun w' H4 => r' y w' H4 Q) (h2 : c = false → Q (.bl false) H) : chK2 r' y tc σ Q (.bl c) H := by
  cases c with
  | true => exact q_chT (h rfl)
  | false => exact q_chF (h2 rfl)
def rIsiQ (K : PySem.W.Frag) : List V → Hp → VK → Prop := rIsi K
theorem q_isi {n : String} {t : Value} {c : Bool} (ht : TyX K H x t) (hk : PySem.W.kitOne K t (.type n) = some c) (k : Q (.bl c) H) : rIsi K [x, .ty n] H Q := ⟨x, .ty n, t, .type n, c, rfl, .ty n, ht, hk, k⟩
def rOrd : List V → Hp → VK → Prop := fun xs H Q => ∃ x, xs = [.str x] ∧ x.length = 1 ∧ Q (.int (x.cps.getD 0 0 : Nat)) H
theorem cq_ord {X : Cx} : CallR X (.builtin "ord") rOrd := call_ord
theorem q_ord {c : Nat} (k : Q (.int c) H) : rOrd [.str ⟨#[c]⟩] H Q := ⟨_, rfl, rfl, k⟩
theorem q_forS {s : Str} (Pv : Nat → L2.St → Hp → Prop) (h0 : Pv 0 σ H)
    (hs : ∀ i c σ H, s.cps[i]? = some c → Pv i σ H → g (.str ⟨#[c]⟩) σ H fun σ2 H2 => t { D with nx := Pv (i + 1), ct := Pv (i + 1), bk := D.nx } σ2 H2) (hd : ∀ σ H, Pv s.cps.size σ H → D.nx σ H) : forK g t D σ (Its s) H := by
  refine ⟨fun i m σ H => i + m = s.cps.size ∧ Pv i σ H, ⟨s.cps.size, Nat.zero_add _, h0⟩, fun i m σ H hW => ?_⟩
  obtain ⟨e, hp⟩ := hW
  by_cases hi : i < s.cps.size
  · refine .inr ⟨hi, Pv (i + 1), fun σ' H' hN => ⟨m - 1, by omega, by omega, hN⟩, fun x H' hy => ?_⟩
    obtain ⟨rfl, c, hc, rfl⟩ := hy
    exact hs i c σ H' hc hp
  · have e2 : i = s.cps.size := by omega
    subst e2
    exact .inl ⟨Nat.le_refl _, hd σ H hp⟩
theorem q_iStr {s : Str} {R : It → Hp → Prop} (k : R (Its s) H) : ∃ z, V.str s = .str z ∧ R (Its z) H := ⟨s, rfl, k⟩
theorem q_iStr0 {R : It → Hp → Prop} (h : te σ H fun v H1 => ∃ x, v = .str x ∧ R (Its x) H1) : iStr te σ H R := h
def dInK (Q : VK) (y : V) : VK := fun x H2 => ∃ a o, x = .ref a ∧ DGet H2 a y o ∧ Q (.bl o.isSome) H2
def dNInK (Q : VK) (y : V) : VK := fun x H2 => ∃ a o, x = .ref a ∧ DGet H2 a y o ∧ Q (.bl (!o.isSome)) H2
theorem q_tDIn {ty td : TE} (h : ty σ H fun y H1 => td σ H1 (dInK Q y)) : tDIn ty td σ H Q := h
theorem q_tDNotIn {ty td : TE} (h : ty σ H fun y H1 => td σ H1 (dNInK Q y)) : tDNotIn ty td σ H Q := h
theorem q_dInS {kvs : List (Key × V)} {s : Str} (h : H a = some (.dK kvs)) (k : Q (.bl (valV kvs (.inr s)).isSome) H) : dInK Q (.str s) (.ref a) H := ⟨a, _, rfl, DGet.k (k := Sum.inr s) h, k⟩
theorem q_dNInS {kvs : List (Key × V)} {s : Str} (h : H a = some (.dK kvs)) (k : Q (.bl (!(valV kvs (.inr s)).isSome)) H) : dNInK Q (.str s) (.ref a) H := ⟨a, _, rfl, DGet.k (k := Sum.inr s) h, k⟩
theorem q_dInI {kvs : List (Key × V)} (h : H a = some (.dK kvs)) (k : Q (.bl (valV kvs (.inl i)).isSome) H) : dInK Q (.int i) (.ref a) H := ⟨a, _, rfl, DGet.k (k := Sum.inl i) h, k⟩
theorem q_dNInI {kvs : List (Key × V)} (h : H a = some (.dK kvs)) (k : Q (.bl (!(valV kvs (.inl i)).isSome)) H) : dNInK Q (.int i) (.ref a) H := ⟨a, _, rfl, DGet.k (k := Sum.inl i) h, k⟩
def dGetK (Q : VK) (x : V) : VK := fun y H2 => ∃ a v, x = .ref a ∧ DGet H2 a y (some v) ∧ Q v H2
theorem q_tDGet {ty td : TE} (h : td σ H fun x H1 => ty σ H1 (dGetK Q x)) : tDGet td ty σ H Q := h
theorem q_dGetS {kvs : List (Key × V)} {s : Str} (h : H a = some (.dK kvs)) (e : valV kvs (.inr s) = some v) (k : Q v H) : dGetK Q (.ref a) (.str s) H := ⟨a, v, rfl, by rw [← e]; exact DGet.k (k := Sum.inr s) h, k⟩
theorem q_dGetI {kvs : List (Key × V)} (h : H a = some (.dK kvs)) (e : valV kvs (.inl i) = some v) (k : Q v H) : dGetK Q (.ref a) (.int i) H := ⟨a, v, rfl, by rw [← e]; exact DGet.k (k := Sum.inl i) h, k⟩
theorem q_dNew (k : ∀ p, H p = none → Q (.ref p) (upd H p (.dK []))) : tDNewK σ H Q := k
def dPutK (D : Ends) (σ : L2.St) (v x : V) : VK := fun y H3 => ∃ a H4, x = .ref a ∧ DPut H3 a y v H4 ∧ D.nx σ H4
theorem q_sDPut {td ty tv : TE} (h : tv σ H fun v H1 => td σ H1 fun x H2 => ty σ H2 (dPutK D σ v x)) : sDPut td ty tv D σ H := h
theorem q_dPutS {kvs : List (Key × V)} {s : Str} (h : H a = some (.dK kvs)) (hl : kvs.length < sizeLine) (k : D.nx σ (upd H a (.dK (putK kvs (.inr s) v)))) : dPutK D σ v (.ref a) (.str s) H := ⟨a, _, rfl, DPut.k (k := Sum.inr s) h hl, k⟩
theorem q_dPutI {kvs : List (Key × V)} (h : H a = some (.dK kvs)) (hl : kvs.length < sizeLine) (k : D.nx σ (upd H a (.dK (putK kvs (.inl i) v)))) : dPutK D σ v (.ref a) (.int i) H := ⟨a, _, rfl, DPut.k (k := Sum.inl i) h hl, k⟩
def truK (K : PySem.W.Frag) (R : Bool → Hp → Prop) : VK := fun x H' => ∃ k, TruV K x H' k ∧ R k H'
theorem q_tru {R : Bool → Hp → Prop} (h : te σ H (truK K R)) : (fun (σ : L2.St) (H : Hp) (Q : Bool → Hp → Prop) => te σ H fun x H' => ∃ k, TruV K x H' k ∧ Q k H') σ H R := h
theorem q_isBl {c d : Bool} (k : Q (.bl (decide (c = d))) H) : rIsB (.bl c) (.bl d) H Q := ⟨c, d, rfl, rfl, k⟩
theorem q_notBl {c d : Bool} (k : Q (.bl (!decide (c = d))) H) : rNotB (.bl c) (.bl d) H Q := ⟨c, d, rfl, rfl, k⟩
theorem q_inT (h : SqT K H p xs) (hx : flatV x = true) (ha : xs.all flatV = true) (k : Q (.bl (inV x xs)) H) : rIn K false x (.ref p) H Q := ⟨p, xs, rfl, .inr h, hx, ha, k⟩
theorem q_inL (h : SqL K H p xs) (hx : flatV x = true) (ha : xs.all flatV = true) (k : Q (.bl (inV x xs)) H) : rIn K false x (.ref p) H Q := ⟨p, xs, rfl, .inl h, hx, ha, k⟩
theorem q_eqD {d e : PyData} (hd : Dp K H x d) (he : Dp K H y e) (s1 : SeqAt.shaped d = true) (s2 : SeqAt.shaped e = true) (k : Q (.bl (PyData.eqv d e)) H) : rEqD K x y H Q := ⟨d, e, hd, he, s1, s2, k⟩
theorem q_neD {d e : PyData} (hd : Dp K H x d) (he : Dp K H y e) (s1 : SeqAt.shaped d = true) (s2 : SeqAt.shaped e = true) (k : Q (.bl (!PyData.eqv d e)) H) : rNeD K x y H Q := ⟨d, e, hd, he, s1, s2, k⟩
theorem q_catA (h1 : H a = some (.tup xs)) (h2 : H b = some (.tup ys)) (hl : xs.length + ys.length ≤ sizeLine) (k : ∀ p H', Same H H' → H' p = some (.tup (xs ++ ys)) → Q (.ref p) H') : rCatA K (.ref a) (.ref b) H Q := by
  refine ⟨a, b, xs, ys, rfl, rfl, sqT h1, sqT h2, hl, fun e => ?_, fun _ e => ?_, fun _ _ p hp => k p _ (Same.new (Same.refl _) hp) upd_same⟩
  · subst e; exact k b H (Same.refl _) h2
  · subst e; exact k a H (Same.refl _) (by rw [List.append_nil]; exact h1)
theorem q_slA {lo hi : Option Int} (h : H a = some (.tup xs)) (k : ∀ p H', Same H H' → H' p = some (.tup (cutV xs lo hi)) → Q (.ref p) H') : rSlA K (.ref a) lo hi H Q := by
  refine ⟨a, xs, rfl, sqT h, fun e => ?_, fun _ p hp => k p _ (Same.new (Same.refl _) hp) upd_same⟩
  refine k a H (Same.refl _) ?_
  unfold cutV
  rw [e.1, e.2, List.drop_zero, Nat.sub_zero, List.take_length]
  exact h
theorem cut_take {n : Nat} (hn : n ≤ xs.length) : cutV xs none (some (n : Int)) = xs.take n := by
  unfold cutV
  rw [HT.sIx_none, show HT.sIx xs.length xs.length (some (n : Int)) = min n xs.length from HT.sIx_nat xs.length xs.length n, Nat.min_eq_left hn, List.drop_zero, Nat.sub_zero]
theorem cut_drop {n : Nat} (hn : n ≤ xs.length) : cutV xs (some (n : Int)) none = xs.drop n := by
  unfold cutV
  rw [HT.sIx_none, show HT.sIx xs.length 0 (some (n : Int)) = min n xs.length from HT.sIx_nat xs.length 0 n, Nat.min_eq_left hn]
  exact List.take_of_length_le (by rw [List.length_drop]; exact Nat.le_refl _)
theorem q_sl {r : V → Option Int → Option Int → Hp → VK → Prop} {tl th : TO} (h : te σ H fun x H1 => tl σ H1 fun l H2 => th σ H2 fun u H3 => r x l u H3 Q) : tSl r te tl th σ H Q := h
theorem q_noPart {R : Option Int → Hp → Prop} (k : R none H) : tNoPart σ H R := k
def partK (R : Option Int → Hp → Prop) : VK := fun x H1 => ∃ i, x = .int i ∧ R (some i) H1
theorem q_part {R : Option Int → Hp → Prop} (h : te σ H (partK R)) : tPart te σ H R := h
theorem q_partK {R : Option Int → Hp → Prop} (k : R (some i) H) : partK R (.int i) H := ⟨i, rfl, k⟩
/-! a text times a number -/
def repS (s : Str) (n : Int) : Str := ⟨(List.replicate n.toNat s.cps).foldl (· ++ ·) #[]⟩
def mulOk (s : Str) (n : Int) : Bool := decide (2 ≤ n) && decide (n ≤ 1000) && decide (s.length = 1) && decide ((repS s n).length ≤ 1000)
def rMulStr : R2 := fun x y H Q => ∃ s n, x = .str s ∧ y = .int n ∧ mulOk s n = true ∧ Q (.str (repS s n)) H
theorem oq_mulStr {X : Cx} : OpR X (binaryOp .Mult) rMulStr := by
  intro pins s σ H x y v u Q I rx ry h
  obtain ⟨z, n, rfl, rfl, hm, q⟩ := h
  obtain ⟨t, rfl⟩ := rx
  obtain ⟨t', rfl⟩ := ry
  unfold mulOk at hm
  simp only [Bool.and_eq_true, decide_eq_true_eq] at hm
  obtain ⟨⟨⟨h1, h2⟩, h3⟩, h4⟩ := hm
  have e1 : (n == 1 || z.length == 0) = false := by
    rw [h3]
    have : (n == 1) = false := beq_eq_false_iff_ne.mpr (by omega)
    rw [this]
    rfl
  refine PySem.P.mul_str ?_ (fun _ _ => ?_) (fun _ _ => ?_) ?_
  · rw [decide_eq_false (show ¬ n < -(2 ^ 63) by omega), decide_eq_false (show ¬ n ≥ 2 ^ 63 by omega)]
    rfl
  · rw [h3]
    have : (1 : Int) ≤ (2 ^ 63 - 1) / n := Int.le_ediv_of_mul_le (by omega) (by omega)
    exact Int.not_lt.mpr this
  · rw [h3, Nat.one_mul]
    exact decide_eq_false (by
      have : sizeLine = 16777216 := sizeLine_eq
      omega)
  · rw [if_neg (show ¬ n < 1 by omega), if_neg (by rw [e1]; exact Bool.false_ne_true)]
    exact ⟨Nat.le_trans h4 (by decide), .str (repS z n), H, I.tok _, ⟨_, rfl⟩, q⟩
theorem q_mulStr {s : Str} (hm : mulOk s i = true) (k : Q (.str (repS s i)) H) : rMulStr (.str s) (.int i) H Q := ⟨s, i, rfl, rfl, hm, k⟩
/-! methods of lists -/
def bmK (K : PySem.W.Frag) (T : String) (r : V → List V → Hp → VK → Prop) (t : TA) (σ : L2.St) (Q : VK) : VK := fun x H1 => tyV K T x H1 ∧ t σ H1 fun xs H2 => r x xs H2 Q
def bmK0 (K : PySem.W.Frag) (T : String) (r : V → List V → Hp → VK → Prop) (Q : VK) : VK := fun x H1 => tyV K T x H1 ∧ r x [] H1 Q
theorem q_bm {T : String} {r : V → List V → Hp → VK → Prop} (h : te σ H (bmK K T r tr σ Q)) : tBM K T r te tr σ H Q := h
theorem q_bm0 {T : String} {r : V → List V → Hp → VK → Prop} (h : te σ H (bmK0 K T r Q)) : tBM0 K T r te σ H Q := h
theorem q_bmL {r : V → List V → Hp → VK → Prop} (h : H l = some (.lst xs)) (k : tr σ H fun vs H2 => r (.ref l) vs H2 Q) : bmK K "list" r tr σ Q (.ref l) H := ⟨.inl ⟨rfl, xs, sqL h⟩, k⟩
theorem q_bmL0 {r : V → List V → Hp → VK → Prop} (h : H l = some (.lst xs)) (k : r (.ref l) [] H Q) : bmK0 K "list" r Q (.ref l) H := ⟨.inl ⟨rfl, xs, sqL h⟩, k⟩
theorem q_append (h : H l = some (.lst xs)) (hl : xs.length < sizeLine) (k : Q .non (upd H l (.lst (xs ++ [y])))) : rAppend (.ref l) [y] H Q := ⟨l, xs, y, rfl, rfl, h, hl, k⟩
theorem q_popAt {n : Nat} (h : H l = some (.lst xs)) (e : i = (n : Int)) (hn : n < xs.length) (hb : i < 2 ^ 63) (hv : xs[n]? = some v) (k : Q v (upd H l (.lst (xs.eraseIdx n)))) : rPopAt (.ref l) [.int i] H Q := by
  refine ⟨l, xs, i, n, v, rfl, rfl, h, by omega, hb, ?_, hv, k⟩
  subst e
  unfold seqIndex?
  have h1 : ¬ ((n : Int) < 0) := by omega
  have h2 : (n : Int) < (xs.length : Int) := by omega
  have h3 : (0 : Int) ≤ (n : Int) := by omega
  simp [h1, h2, h3]
/-! a walk over a list or a tuple -/
theorem pi_or {X : Cx} {tg e : Expr} {w1 w2 : TI} (h1 : PI X tg e w1) (h2 : PI X tg e w2) : PI X tg e (fun σ H R => w1 σ H R ∨ w2 σ H R) :=
  ⟨fun pins s σ H R I h => h.elim (h1.run pins s σ H R I) (h2.run pins s σ H R I)⟩
def iSeq (K : PySem.W.Frag) (te : TE) : TI := fun σ H R => iList K te σ H R ∨ iTup K te σ H R
theorem pi_seq {X : Cx} {tg e : Expr} {te : TE} (h : PE X e te) : PI X tg e (iSeq X.K te) := pi_or (pi_list h) (pi_tup h)
theorem q_iSeqL {R : It → Hp → Prop} (h : te σ H fun x H1 => ∃ a, x = .ref a ∧ (∃ xs, SqL K H1 a xs) ∧ R (Itl K a) H1) : iSeq K te σ H R := .inl h
theorem q_iSeqT {R : It → Hp → Prop} (h : te σ H fun x H1 => ∃ a, x = .ref a ∧ (∃ xs, SqT K H1 a xs) ∧ R (Itt K a) H1) : iSeq K te σ H R := .inr h
/-! a written dict -/
def pairsK (σ : L2.St) (r : List (TE × TE)) (x : V) (Q : List (V × V) → Hp → Prop) : VK := fun y H2 => tPairs r σ H2 fun ps H3 => Q ((x, y) :: ps) H3
theorem q_pairC {tk tv : TE} {r : List (TE × TE)} {R : List (V × V) → Hp → Prop} (h : tk σ H fun x H1 => tv σ H1 (pairsK σ r x R)) : tPairs ((tk, tv) :: r) σ H R := h
theorem q_pairsK {r : List (TE × TE)} {R : List (V × V) → Hp → Prop} (h : tPairs r σ H fun ps H3 => R ((x, y) :: ps) H3) : pairsK σ r x R y H := h
theorem q_pairN {R : List (V × V) → Hp → Prop} (h : R [] H) : tPairs [] σ H R := h
def dispK (Q : VK) (p : Addr) : List (V × V) → Hp → Prop := fun ps H2 => H2 p = some (.dK []) ∧ ∃ kvs : List (Key × V), ps = kvs.map (fun kv => (kV kv.1, kv.2)) ∧ kvs.length ≤ 15 ∧ Q (.ref p) (upd H2 p (.dK (mergeK [] kvs)))
theorem q_disp {trs : List (TE × TE)} (k : ∀ p, H p = none → tPairs trs σ (upd H p (.dK [])) (dispK Q p)) : tDisp trs σ H Q := k
theorem valV_cons {κ : Type} [DecidableEq κ] {kvs : List (κ × V)} {k k' : κ} {v : V} : valV ((k, v) :: kvs) k' = if k = k' then some v else valV kvs k' := by
  unfold valV
  rw [List.find?_cons]
  by_cases e : k = k'
  · rw [if_pos e, decide_eq_true e]; rfl
  · rw [if_neg e, decide_eq_false e]
theorem valV_nomem {κ : Type} [DecidableEq κ] {kvs : List (κ × V)} {k : κ} (h : k ∉ kvs.map (·.1)) : valV kvs k = none := by
  cases q : valV kvs k with
  | none => rfl
  | some v => exact absurd (valV_in q) h
theorem merge_app : ∀ (kvs acc : List (Key × V)), ((acc ++ kvs).map (·.1)).Nodup → mergeK acc kvs = acc ++ kvs
  | [], acc, _ => by rw [List.append_nil]; rfl
  | (k, v) :: r, acc, h => by
    have hk : k ∉ acc.map (·.1) := by
      rw [List.map_append] at h
      intro m
      exact (List.nodup_append.mp h).2.2 k m k (by simp) rfl
    show mergeK (putK acc k v) r = _
    rw [putK_new v (valV_nomem hk), merge_app r (acc ++ [(k, v)]) (by rw [List.append_assoc]; exact h), List.append_assoc]
    rfl
theorem q_dispK {kvs : List (Key × V)} {ps : List (V × V)} (h : H p = some (.dK [])) (e : ps = kvs.map (fun kv => (kV kv.1, kv.2))) (hl : kvs.length ≤ 15) (hn : (kvs.map (·.1)).Nodup) (k : Q (.ref p) (upd H p (.dK kvs))) : dispK Q p ps H :=
  ⟨h, kvs, e, hl, by rw [merge_app kvs [] hn]; exact k⟩
theorem q_slL {lo hi : Option Int} (h : SqL K H a xs) (k : ∀ p, H p = none → Q (.ref p) (upd H p (.lst (cutV xs lo hi)))) : rSlL K (.ref a) lo hi H Q := ⟨a, xs, rfl, h, k⟩
/-! attributes and methods -/
def fldK (K : PySem.W.Frag) (f : Str) (Q : VK) : VK := fun x H1 => ∃ a C dx fs v, x = .ref a ∧ H1 a = some (.ins C dx fs) ∧ Cls K C ∧ NoAttr K C f ∧ fs.lookup f = some v ∧ Q v H1
theorem q_fld {f : Str} (h : te σ H (fldK K f Q)) : tFld K te f σ H Q := h
theorem q_fldK {f : Str} {C dx : Addr} {fs : List (Str × V)} (h : H a = some (.ins C dx fs)) (hc : Cls K C) (hn : NoAttr K C f) (hl : fs.lookup f = some v) (k : Q v H) : fldK K f Q (.ref a) H := ⟨a, C, dx, fs, v, rfl, h, hc, hn, hl, k⟩
def fputK (K : PySem.W.Frag) (f : Str) (D : Ends) (σ : L2.St) (y : V) : VK := fun x H2 => ∃ a C dx fs, x = .ref a ∧ H2 a = some (.ins C dx fs) ∧ Cls K C ∧ NoAttr K C f ∧ fs.length < 1000 ∧ D.nx σ (upd H2 a (.ins C dx (putF f y fs)))
theorem q_sFld {f : Str} (h : tb σ H fun y H1 => te σ H1 (fputK K f D σ y)) : sFld K te tb f D σ H := h
theorem q_fputK {f : Str} {C dx : Addr} {fs : List (Str × V)} (h : H a = some (.ins C dx fs)) (hc : Cls K C) (hn : NoAttr K C f) (hl : fs.length < 1000) (k : D.nx σ (upd H a (.ins C dx (putF f y fs)))) : fputK K f D σ y (.ref a) H := ⟨a, C, dx, fs, rfl, h, hc, hn, hl, k⟩
def methK (m : Str) (C : Addr) (sp : Sp) (dvs : List V) (E : XK) (tr : TA) (σ : L2.St) (Q : VK) : VK := fun x H1 => ∃ a dx fs, x = .ref a ∧ H1 a = some (.ins C dx fs) ∧ fs.lookup m = none ∧ tr σ H1 fun vs H2 => sp (x :: (vs ++ dvs)) H2 Q E
theorem q_meth {m : Str} {C : Addr} {sp : Sp} {dvs : List V} {E : XK} (h : te σ H (methK m C sp dvs E tr σ Q)) : tMeth C m sp dvs E te tr σ H Q := h
def selfK (sp : Sp) (x : V) (E : XK) (Q : VK) : List V → Hp → Prop := fun vs H2 => sp (x :: vs) H2 Q E
theorem q_methK {m : Str} {C dx : Addr} {sp : Sp} {E : XK} {fs : List (Str × V)} (h : H a = some (.ins C dx fs)) (hn : fs.lookup m = none) (k : ∀ (R : List V → Hp → Prop), (∀ vs H2, sp (.ref a :: vs) H2 Q E → R vs H2) → tr σ H R) : methK m C sp [] E tr σ Q (.ref a) H :=
  ⟨a, dx, fs, rfl, h, hn, k _ fun vs H2 q => by rw [List.append_nil]; exact q⟩
theorem q_fldlen {f : Str} {fs : List (Str × V)} {y : V} {n : Nat} (h : fs.length ≤ n) : (putF f y fs).length ≤ n + 1 := by
  induction fs generalizing n with
  | nil => exact Nat.succ_le_succ (Nat.zero_le _)
  | cons p r ih =>
    obtain ⟨g, x⟩ := p
    show (if g = f then (g, y) :: r else (g, x) :: putF f y r).length ≤ n + 1
    by_cases e : g = f
    · rw [if_pos e]; exact Nat.le_succ_of_le h
    · rw [if_neg e]
      cases n with
      | zero => exact absurd h (by simp)
      | succ n => exact Nat.succ_le_succ (ih (Nat.le_of_succ_le_succ h))
theorem q_never {σ : L2.St} (h : False) : tNever D σ H := h
def mkK (C : Addr) (n m : Nat) (sp : Sp) (gV : List V → List V → List V) (E : XK) (vs : List V) (Q : VK) : List V → Hp → Prop := fun zs H2 => vs.length = n ∧ zs.length = m ∧ ∀ x dx, H2 x = none → H2 dx = none → dx ≠ x →
  sp (gV (.ref x :: vs) zs) (upd (upd H2 dx (.own x)) x (.ins C dx [])) (fun v H3 => v = .non ∧ Q (.ref x) H3) E
theorem q_makeK {C : Addr} {n m : Nat} {sp : Sp} {gV : List V → List V → List V} {E : XK} {tk : TA} (h : tr σ H fun vs H1 => tk σ H1 (mkK C n m sp gV E vs Q)) : tMakeK C n m sp gV E tr tk σ H Q := h
/-! comprehensions -/
def lcK (g : TG) (tt : TT) (te : TE) (vs : List Nat) (σ : L2.St) (Q : VK) : It → Hp → Prop := fun J H1 => ∀ D, H1 D = none → ∃ W : Nat → Nat → Hp → Prop, (∃ m, W 0 m (upd H1 D (.lst []))) ∧ ∀ i m H, W i m H →
  (J.stop i H ∧ Q (.ref D) H) ∨ (J.go i H ∧ ∃ Nx : Hp → Prop, (∀ H', Nx H' → ∃ m', m' < m ∧ W (i + 1) m' H') ∧ ∀ x H', J.yld i H x H' → g x (wipe σ vs) H' fun σ2 H2 => wipe σ2 vs = wipe σ vs ∧ tt σ2 H2 fun b H3 =>
    if b = true then te σ2 H3 fun y H4 => ∃ acc, H4 D = some (.lst acc) ∧ acc.length < sizeLine ∧ Nx (upd H4 D (.lst (acc ++ [y]))) else Nx H3)
theorem q_lc {wi : TI} {vs : List Nat} (h : wi σ H (lcK g tt te vs σ Q)) : tLc wi g tt te vs σ H Q := h
def keepK (te : TE) (σ : L2.St) (D : Addr) (Nx : Hp → Prop) : Bool → Hp → Prop := fun b H3 => if b = true then te σ H3 fun y H4 => ∃ acc, H4 D = some (.lst acc) ∧ acc.length < sizeLine ∧ Nx (upd H4 D (.lst (acc ++ [y]))) else Nx H3
def accK (D : Addr) (Nx : Hp → Prop) : VK := fun y H4 => ∃ acc, H4 D = some (.lst acc) ∧ acc.length < sizeLine ∧ Nx (upd H4 D (.lst (acc ++ [y])))
theorem q_keepT {Nx : Hp → Prop} (h : te σ H (accK l Nx)) : keepK te σ l Nx true H := iteT h
theorem q_keepF {Nx : Hp → Prop} (h : Nx H) : keepK te σ l Nx false H := iteF h
theorem q_keep2 {Nx : Hp → Prop} {c : Bool} (h : c = true → te σ H (accK l Nx)) (h2 : c = false → Nx H) : keepK te σ l Nx c H := by
  cases c with
  | true => exact iteT (h rfl)
  | false => exact iteF (h2 rfl)
theorem q_accK {Nx : Hp → Prop} (h : H l = some (.lst xs)) (hl : xs.length < sizeLine) (k : Nx (upd H l (.lst (xs ++ [y])))) : accK l Nx y H := ⟨xs, h, hl, k⟩
theorem q_lcL {S : List V} {vs : List Nat} (h : SqL K H a S) (k : ∀ D, H D = none → ∃ Pv : Nat → Hp → Prop, Pv 0 (upd H D (.lst [])) ∧ (∀ i H, i ≤ S.length → Pv i H → SqL K H a S) ∧
      (∀ i x H, S[i]? = some x → Pv i H → g x (wipe σ vs) H fun σ2 H2 => wipe σ2 vs = wipe σ vs ∧ tt σ2 H2 (keepK te σ2 D (Pv (i + 1)))) ∧ ∀ H, Pv S.length H → Q (.ref D) H) :
    ∃ b, V.ref a = .ref b ∧ (∃ xs, SqL K H b xs) ∧ lcK g tt te vs σ Q (Itl K b) H := ⟨a, rfl, ⟨S, h⟩, fun D hD => by
      obtain ⟨Pv, h0, hl, hs, hd⟩ := k D hD
      exact lc_list Pv h0 hl hs hd⟩
theorem q_lcT {S : List V} {vs : List Nat} (h : SqT K H a S) (k : ∀ D, H D = none → ∃ Pv : Nat → Hp → Prop, Pv 0 (upd H D (.lst [])) ∧ (∀ i H, i ≤ S.length → Pv i H → SqT K H a S) ∧
      (∀ i x H, S[i]? = some x → Pv i H → g x (wipe σ vs) H fun σ2 H2 => wipe σ2 vs = wipe σ vs ∧ tt σ2 H2 (keepK te σ2 D (Pv (i + 1)))) ∧ ∀ H, Pv S.length H → Q (.ref D) H) :
    ∃ b, V.ref a = .ref b ∧ (∃ xs, SqT K H b xs) ∧ lcK g tt te vs σ Q (Itt K b) H := ⟨a, rfl, ⟨S, h⟩, fun D hD => by
      obtain ⟨Pv, h0, hl, hs, hd⟩ := k D hD
      exact lc_tup Pv h0 hl hs hd⟩
theorem q_lcR {vs : List Nat} (hj : 0 ≤ j ∧ j < 1000000000000000) (k : ∀ D, H D = none → ∃ Pv : Nat → Hp → Prop, Pv 0 (upd H D (.lst [])) ∧
      (∀ (i : Nat) H, (i : Int) < j → Pv i H → g (.int i) (wipe σ vs) H fun σ2 H2 => wipe σ2 vs = wipe σ vs ∧ tt σ2 H2 (keepK te σ2 D (Pv (i + 1)))) ∧ ∀ H, Pv j.toNat H → Q (.ref D) H) :
    rg1K (lcK g tt te vs σ Q) [.int j] H := ⟨j, rfl, by omega, by omega, fun D hD => by
      obtain ⟨Pv, h0, hs, hd⟩ := k D hD
      refine lc_range Pv h0 (fun i H hi hp => ?_) hd
      have e : (0 : Int) + (i : Int) = (i : Int) := Int.zero_add _
      rw [e]
      exact hs i H (by omega) hp⟩
end

/-! get and setdefault of a dict -/
section
variable {H : Hp} {σ : L2.St} {Q : VK} {td ty tx : TE} {a : Addr} {z v : V}
def dG2K (Q : VK) (a : Addr) (y : V) : VK := fun z H3 => ∃ o, DGet H3 a y o ∧ Q (o.getD z) H3
def dG2a (ty tx : TE) (σ : L2.St) (Q : VK) : VK := fun x H1 => ∃ a, x = .ref a ∧ IsD H1 a ∧ ty σ H1 fun y H2 => tx σ H2 (dG2K Q a y)
theorem q_tDGet2 (h : td σ H (dG2a ty tx σ Q)) : tDGet2 td ty tx σ H Q := h
theorem q_dG2a {kvs : List (Key × V)} (h : H a = some (.dK kvs)) (k : ty σ H fun y H2 => tx σ H2 (dG2K Q a y)) : dG2a ty tx σ Q (.ref a) H := ⟨a, rfl, .inl ⟨kvs, .inl h⟩, k⟩
theorem q_dG2S {kvs : List (Key × V)} {s : Str} (h : H a = some (.dK kvs)) (k : Q ((valV kvs (.inr s)).getD z) H) : dG2K Q a (.str s) z H := ⟨_, DGet.k (k := Sum.inr s) h, k⟩
theorem q_dG2I {kvs : List (Key × V)} {i : Int} (h : H a = some (.dK kvs)) (k : Q ((valV kvs (.inl i)).getD z) H) : dG2K Q a (.int i) z H := ⟨_, DGet.k (k := Sum.inl i) h, k⟩
def dSdK (Q : VK) (a : Addr) (y : V) : VK := fun z H3 => ∃ (kvs : List (Key × V)) (k : Key), H3 a = some (.dK kvs) ∧ y = kV k ∧ kvs.length < sizeLine ∧ (∀ v, valV kvs k = some v → Q v H3) ∧ (valV kvs k = none → Q z (upd H3 a (.dK (putK kvs k z))))
def dSda (ty tx : TE) (σ : L2.St) (Q : VK) : VK := fun x H1 => ∃ a, x = .ref a ∧ IsD H1 a ∧ ty σ H1 fun y H2 => tx σ H2 (dSdK Q a y)
theorem q_tDSetd (h : td σ H (dSda ty tx σ Q)) : tDSetd td ty tx σ H Q := h
theorem q_dSda {kvs : List (Key × V)} (h : H a = some (.dK kvs)) (k : ty σ H fun y H2 => tx σ H2 (dSdK Q a y)) : dSda ty tx σ Q (.ref a) H := ⟨a, rfl, .inl ⟨kvs, .inl h⟩, k⟩
theorem q_dSdS {kvs : List (Key × V)} {s : Str} (h : H a = some (.dK kvs)) (hl : kvs.length < sizeLine) (k1 : ∀ v, valV kvs (.inr s) = some v → Q v H) (k2 : valV kvs (.inr s) = none → Q z (upd H a (.dK (putK kvs (.inr s) z)))) : dSdK Q a (.str s) z H := ⟨kvs, .inr s, h, rfl, hl, k1, k2⟩
end

/-! methods that may raise within a try; the suite of one class; del of an item; a text times 1 -/
section
variable {K : PySem.W.Frag} {σ : L2.St} {H : Hp} {Q : VK} {D : Ends} {l : Addr} {xs : List V} {i : Int} {to ti : TE}
def delK (D : Ends) (σ : L2.St) (x : V) : VK := fun y H2 => ∃ (l : Addr) (xs : List V) (i : Int) (k : Nat), x = .ref l ∧ y = .int i ∧ H2 l = some (.lst xs) ∧ -(2 ^ 63) ≤ i ∧ i < 2 ^ 63 ∧ seqIndex? i xs.length = some k ∧ D.nx σ (upd H2 l (.lst (xs.eraseIdx k)))
theorem q_delL (h : to σ H fun x H1 => ti σ H1 (delK D σ x)) : tDelL to ti D σ H := h
theorem seqIx {n m : Nat} (h : n < m) : seqIndex? (n : Int) m = some n := by
  unfold seqIndex?
  have h1 : ¬ ((n : Int) < 0) := by omega
  have h2 : (n : Int) < (m : Int) := by omega
  have h3 : (0 : Int) ≤ (n : Int) := by omega
  simp [h1, h2, h3]
theorem q_delK {n : Nat} (h : H l = some (.lst xs)) (e : i = (n : Int)) (hn : n < xs.length) (hb : i < 2 ^ 63) (k : D.nx σ (upd H l (.lst (xs.eraseIdx n)))) : delK D σ (.ref l) (.int i) H :=
  ⟨l, xs, i, n, rfl, rfl, h, by omega, hb, by rw [e]; exact seqIx hn, k⟩
def rMulStr1 : R2 := fun x y H Q => ∃ s, x = .str s ∧ y = .int 1 ∧ Q (.str s) H
theorem oq_mulStr1 {X : Cx} : OpR X (binaryOp .Mult) rMulStr1 := by
  intro pins s σ H x y v u Q I rx ry h
  obtain ⟨z, rfl, rfl, q⟩ := h
  obtain ⟨t, rfl⟩ := rx
  obtain ⟨t', rfl⟩ := ry
  refine PySem.P.mul_str (by decide) (fun _ h => by cases h) (fun _ h => by cases h) ?_
  rw [if_neg (show ¬ (1 : Int) < 1 by omega), if_pos (by rfl)]
  exact ⟨.str z, H, I, ⟨_, rfl⟩, q⟩
theorem q_mulStr1 {s : Str} (k : Q (.str s) H) : rMulStr1 (.str s) (.int 1) H Q := ⟨s, rfl, rfl, k⟩
theorem q_int1b {c : Bool} (k : Q (.int (if c then 1 else 0)) H) : rInt1 [.bl c] H Q := .inr ⟨c, rfl, k⟩
theorem q_int1t (k : Q (.int 1) H) : rInt1 [.bl true] H Q := .inr ⟨true, rfl, k⟩
theorem q_neB {c d : Bool} (k : Q (.bl (c != d)) H) : rNe (.bl c) (.bl d) H Q := ⟨rfl, by
  have e : (!decide (V.bl c = V.bl d)) = (c != d) := by cases c <;> cases d <;> rfl
  rw [e]; exact k⟩
theorem q_neBs {c : Bool} (k : Q (.bl false) H) : rNe (.bl c) (.bl c) H Q := q_neB (by rw [bne_self_eq_false]; exact k)
def tMethA (C : Addr) (m : Str) (sp : Sp) (E : L2.St → XK) (ta : TE) (t : TA) : TE := fun σ H Q => ta σ H fun x H1 => ∃ a dx fs, x = .ref a ∧ H1 a = some (.ins C dx fs) ∧ fs.lookup m = none ∧ t σ H1 fun vs H2 => sp (x :: vs) H2 Q (E σ)
def methAK (C : Addr) (m : Str) (sp : Sp) (E : L2.St → XK) (t : TA) (σ : L2.St) (Q : VK) : VK := fun x H1 => ∃ a dx fs, x = .ref a ∧ H1 a = some (.ins C dx fs) ∧ fs.lookup m = none ∧ t σ H1 fun vs H2 => sp (x :: vs) H2 Q (E σ)
theorem q_methA {C : Addr} {m : Str} {sp : Sp} {E : L2.St → XK} {ta : TE} {t : TA} (h : ta σ H (methAK C m sp E t σ Q)) : tMethA C m sp E ta t σ H Q := h
theorem q_methAK {C dx a : Addr} {m : Str} {sp : Sp} {E : L2.St → XK} {t : TA} {fs : List (Str × V)} (h : H a = some (.ins C dx fs)) (hn : fs.lookup m = none) (k : t σ H fun vs H2 => sp (.ref a :: vs) H2 Q (E σ)) : methAK C m sp E t σ Q (.ref a) H := ⟨a, dx, fs, rfl, h, hn, k⟩
theorem q_callS {sp : Sp} {E : L2.St → XK} {t : TA} (h : t σ H fun vs H1 => sp vs H1 Q (E σ)) : tCallS sp E t σ H Q := h
theorem q_isE {D a C : Addr} {b : Bool} (e : PySem.W.kitOne K (.ref D) (.ref C) = some b) (k : Q (.bl b) H) : rIsE K D a [.ref a, .ref C] H Q := ⟨.ref C, .ref C, b, rfl, fun _ r => r, e, k⟩
end
section
variable {X : Cx} {CX : CXT} {k : Nat} {f C : Addr} {fd : FuncData} {ps : List Str} {sp : Sp} {E : L2.St → XK} {m : Str} {pos apos : Pos} {e o : Expr} {es : List Expr} {ta : TE} {t : TA}
theorem pe_methA {pl : Sem Bool} (he : PE X o ta) (c : Cls X.K C) (hm : Meth X.K C m f) (F : FnOk X.prog X.w X.K X.mg X.base CX k f fd ps sp) (hr : Room k X.A) (hb : Binds X.K fd ps []) (hx : ∀ σ, PassesAt CX X σ (E σ)) (ha : PA X (e :: es) t)
    (hst : starEach (e :: es) X.env = (false, eval e X.env) :: starEach es X.env := by rfl) (hpl : (backTo pos (starEach es X.env)).any (·.1) = false := by rfl)
    (ht : eval (.Call (.Attribute o m apos) (e :: es) [] pos) X.env = (do
      let ov ← eval o X.env
      standAt apos.atName
      let (f, first) ← holding [ov] (getMethod ov m pl)
      callWith pos f first (backTo pos (starEach (e :: es) X.env)) (backToKw pos (keywordEach [] X.env))) := by rfl) :
    PE X (.Call (.Attribute o m apos) (e :: es) [] pos) (tMethA C m sp E ta t) := by
  refine ⟨fun pins s σ H Q I h => ?_⟩
  refine PySem.W.methodCall_KW (pl := pl) (thn (he.run pins s σ H _ I h) fun u s1 ⟨x, H1, I1, rx, a, dx, fs, ex, ea, l, q⟩ => ?_) ht
  subst ex
  obtain rfl : u = Value.ref a := rx
  refine getmeth_ok I1 ea c hm l ?_
  refine PySem.W.callWith_K (first := [.ref a]) (h₀ := X.base) I.ok.mod.kin hm.kp (thn (ha.run pos pins s1 σ H1 _ I1 q) fun us s2 ⟨vs, H2, I2, r, q2⟩ => ⟨I2.kIn, ?_⟩) hst hpl
  exact run_fnS (us := .ref a :: us) (vs := .ref a :: vs) F hr hb (hx σ) I2 (.cons rfl r) q2
theorem pss_cls {oe : Obj} {cls : Value} {d : Option Addr} {b : List Stmt} {t : TS} (hz : Zc cls d oe) (h : Zc (.ref C) none oe → PSs X b t) : PSs X b (fun D σ H => (cls = .ref C ∧ d = none) ∧ t D σ H) :=
  ⟨fun pins s σ H D I q => (h (by obtain ⟨⟨e1, e2⟩, _⟩ := q; rw [e1, e2] at hz; exact hz)).run pins s σ H D I q.2⟩
end

/-! the sum of a dict's values; dicts keyed by tuples -/
section
variable {X : Cx} {o : Expr} {p pos apos mpos : Pos} {td : TE}
def tSumVals (td : TE) : TE := fun σ H Q => td σ H fun x H1 => ∃ (a : Addr) (kvs : List (Key × V)) (is : List Int), x = V.ref a ∧ H1 a = some (.dK kvs) ∧ kvs.map (·.2) = is.map V.int ∧ Q (.int is.sum) H1
theorem pre_sum (is : List Int) : ∀ n, n ≤ is.length → preSum (fun i => is.getD i 0) n = (is.take n).sum
  | 0, _ => by simp [preSum]
  | n + 1, h => by
    rw [preSum, pre_sum is n (by omega), List.take_add_one, List.sum_append, List.getElem?_eq_getElem (by omega), List.getD_eq_getElem?_getD, List.getElem?_eq_getElem (by omega)]
    simp
theorem pe_sumVals (hc : X.calm = true) (hg : Gl X "sum") (hm : X.mg "sum" = none) (hd : PE X o td) (hbase : attributeBase o "values" X.env (eval o X.env) = eval o X.env := by rfl) (hline : (apos.endLine == mpos.line) = true := by rfl)
    (hse : starEach [Expr.Call (.Attribute o "values" apos) [] [] mpos] X.env = [(false, eval (Expr.Call (.Attribute o "values" apos) [] [] mpos) X.env)] := by rfl) :
    PE X (.Call (.Name "sum" p) [.Call (.Attribute o "values" apos) [] [] mpos] [] pos) (tSumVals td) := by
  refine ⟨fun pins s σ H Q I h => ?_⟩
  refine wpAny_Call_Name_kw (ld_blt I hg hm (u := .builtin "sum") (by first | rfl | decide +kernel) ?_ (by first | decide +kernel | decide) (by first | decide +kernel | decide))
  rw [hse]
  refine PySem.callWith_builtin1 (wpAny_Call_method0_late hbase hline (thn (hd.run pins s σ H _ I h) fun v s1 ⟨x, H1, I1, r1, a, kvs, is, ex, ha, hv, q⟩ => ?_))
  subst ex
  obtain rfl : v = Value.ref a := r1
  obtain ⟨_, hsys, vs, rel, dof⟩ := dk_of I1.hok ha
  obtain ⟨ep, dat⟩ := dof.dictAt
  have dat' := dat
  obtain ⟨ob, es, ho, ex, hdat, hko, hpr, hnd⟩ := dat'
  refine ⟨"dict", "dict.values", PySem.F.plainAttrs_dict, PySem.F.slot_dict_values, PySem.F.type_dict_values, ⟨ob, ho, ex.1⟩, fun b e => ?_, Calls.callWith_builtin rfl (PySem.evalArgs_none ?_)⟩
  · cases e
    exact ⟨ob, ho, ex.2.1⟩
  refine call_meetsIn PySem.F.slot_dict_values ⟨ob, ho, ex.1⟩ PySem.F.entry_dict_values (PySem.F.args_dict_values_1 _) (meets_dict_values (mixKind X.prog X.w) a hsys) ⟨⟨vs, dof⟩, ?_⟩
  have k1 : ∀ b u, s1.heap.get? b = some u → (s1.heap.push { cls := .type "dict_values", data := .fields #[.ref a] }).get? b = some u := fun b u e => Heap.get?_push_of_some _ e
  have dat1 : (s1.heap.push { cls := .type "dict_values", data := .fields #[.ref a] }).DictAt (mixKind X.prog X.w) a vs ep := dat.keep k1
  have hlv : vs.length = is.length := by
    have e1 := congrArg List.length hv
    rw [List.length_map, List.length_map] at e1
    rw [← e1]
    exact (KV.length rel).symm
  have hval : ∀ (i : Nat) (v : Value), (∃ k, vs[i]? = some (k, v)) → ∃ t, v = Value.int (is.getD i 0) t := fun i v ⟨k, hk⟩ => by
    obtain ⟨x, h1, h2⟩ := KV.at' rel hk
    have e1 : (kvs.map (·.2))[i]? = some x := by rw [List.getElem?_map, h1] <;> rfl
    rw [hv, List.getElem?_map] at e1
    obtain ⟨j, hj, e2⟩ := Option.map_eq_some_iff.mp e1
    subst e2
    obtain ⟨t, e3⟩ := h2
    refine ⟨t, ?_⟩
    rw [e3, List.getD_eq_getElem?_getD, hj] <;> rfl
  refine call_sum_walkG (wpAny_pyIter_values (v := s1.heap.objs.size) (d := a) ⟨_, Heap.get?_push_size _ rfl, rfl, rfl⟩ dat1 ?_)
  have hlt : a < s1.heap.objs.size := Heap.lt_size ho
  have hsz : (s1.heap.push { cls := .type "dict_values", data := .fields #[.ref a] }).objs.size = s1.heap.objs.size + 1 := Heap.size_push _ _
  refine ⟨_, _, _, _, _, _, fun i => is.getD i 0, rfl, Walks.dictValues (knd := mixKind X.prog X.w) (A := X.A.in1) (I.ok.hd hc) (s1.heap.push { cls := .type "dict_values", data := .fields #[.ref a] }).objs.size a (by rw [hsz]; exact Nat.ne_of_lt (Nat.lt_succ_of_lt hlt)) vs ep,
    ⟨⟨_, Heap.get?_push_size _ rfl, rfl, rfl⟩, dat1.keep fun b u e => Heap.get?_push_of_some _ e⟩, fun b hb => ?_, hval, fun h' tk t' hk => ?_⟩
  · show b < ((s1.heap.push _).push _).objs.size
    rw [Heap.size_push, Heap.size_push]
    rw [hsz] at hb
    rcases List.mem_cons.mp hb with e | hb
    · rw [e]
      exact Nat.lt_succ_self _
    · have e : b = a := List.mem_singleton.mp hb
      rw [e]
      exact Nat.lt_succ_of_lt (Nat.lt_succ_of_lt hlt)
  · refine ⟨.int is.sum, H1, I1.kept (t' := tk) fun b u e => hk b u (fun hmem => ?_) (Heap.get?_push_of_some _ (k1 b u e)), ⟨t', ?_⟩, q⟩
    · have e1 : b = (s1.heap.push { cls := .type "dict_values", data := .fields #[.ref a] }).objs.size := List.mem_singleton.mp hmem
      have e2 := Heap.lt_size e
      rw [hsz] at e1
      rw [e1] at e2
      exact absurd e2 (Nat.not_lt.mpr (Nat.le_succ _))
    · rw [pre_sum is _ (by omega), hlv, List.take_length]
end
section
variable {K : PySem.W.Frag} {σ : L2.St} {H : Hp} {Q : VK} {D : Ends} {a b : Addr} {z v : V} {ty tx td : TE} {kvs : List (List Key × V)} {k : List Key}
def sumK (Q : VK) : VK := fun x H1 => ∃ (a : Addr) (kvs : List (Key × V)) (is : List Int), x = V.ref a ∧ H1 a = some (.dK kvs) ∧ kvs.map (·.2) = is.map V.int ∧ Q (.int is.sum) H1
theorem q_sumVals (h : td σ H (sumK Q)) : tSumVals td σ H Q := h
theorem q_sumK {kvs : List (Key × V)} {is : List Int} (h : H a = some (.dK kvs)) (e : kvs.map (·.2) = is.map V.int) (q : Q (.int is.sum) H) : sumK Q (.ref a) H := ⟨a, kvs, is, rfl, h, e, q⟩
theorem q_dG2aT (h : H a = some (.dT kvs)) (q : ty σ H fun y H2 => tx σ H2 (dG2K Q a y)) : dG2a ty tx σ Q (.ref a) H := ⟨a, rfl, .inr ⟨kvs, .inl h⟩, q⟩
theorem q_dG2T (h : H a = some (.dT kvs)) (hb : H b = some (.tup (k.map kV))) (q : Q ((valV kvs k).getD z) H) : dG2K Q a (.ref b) z H := ⟨_, DGet.t h hb, q⟩
theorem q_dPutT (h : H a = some (.dT kvs)) (hb : H b = some (.tup (k.map kV))) (hl : kvs.length < sizeLine) (q : D.nx σ (upd H a (.dT (putK kvs k v)))) : dPutK D σ v (.ref a) (.ref b) H := ⟨a, _, rfl, DPut.t h hb hl, q⟩
theorem q_dNewT (q : ∀ p, H p = none → Q (.ref p) (upd H p (.dT []))) : tDNewT σ H Q := q
end

/-! dicts keyed by nested tuples -/
mutual
inductive NV (H : Hp) : NestedKey → V → Prop
  | non : NV H .none .non
  | int (i : Int) : NV H (.num i) (.int i)
  | str (x : Str) : NV H (.text x) (.str x)
  | tup {b : Addr} {vs : List V} {ks : List NestedKey} : H b = some (.tup vs) → NVs H ks vs → NV H (.tup ks) (.ref b)
inductive NVs (H : Hp) : List NestedKey → List V → Prop
  | nil : NVs H [] []
  | cons {k : NestedKey} {v : V} {ks : List NestedKey} {vs : List V} : NV H k v → NVs H ks vs → NVs H (k :: ks) (v :: vs)
end
mutual
theorem NV.is {P : Program} {w : World} {H : Hp} {h : Heap} (ok : HOk P w H h) : ∀ {k : NestedKey} {v : V} {u : Value}, NV H k v → RelV v u → NestedIs h k u
  | _, _, _, .non, r => by cases (show _ = Value.none from r); exact .none
  | _, _, _, .int i, r => by obtain ⟨t, rfl⟩ := (show ∃ t, _ = Value.int i t from r); exact .int i t
  | _, _, _, .str x, r => by obtain ⟨t, rfl⟩ := (show ∃ t, _ = Value.str x t from r); exact .text x t
  | _, _, _, .tup (b := b) (vs := vs) hb hs, r => by
    cases (show _ = Value.ref b from r)
    obtain ⟨_, its, rv, o, o1, o2, n, o3⟩ := (show ObjOk P w H h b (.tup vs) from ok b _ hb)
    exact .tup o1 o2 o3 (by simpa using NVs.are ok hs rv)
theorem NVs.are {P : Program} {w : World} {H : Hp} {h : Heap} (ok : HOk P w H h) : ∀ {ks : List NestedKey} {vs : List V} {us : List Value}, NVs H ks vs → Vals vs us → NestedAll h ks us
  | _, _, _, .nil, r => by cases r; exact .nil
  | _, _, _, .cons a b, r => by
    cases r with
    | cons r1 r2 => exact .cons (NV.is ok a r1) (NVs.are ok b r2)
end
mutual
theorem NV.mono {H H' : Hp} (e : ∀ b ys, H b = some (.tup ys) → H' b = some (.tup ys)) : ∀ {k : NestedKey} {v : V}, NV H k v → NV H' k v
  | _, _, .non => .non
  | _, _, .int i => .int i
  | _, _, .str x => .str x
  | _, _, .tup h hs => .tup (e _ _ h) (NVs.mono e hs)
theorem NVs.mono {H H' : Hp} (e : ∀ b ys, H b = some (.tup ys) → H' b = some (.tup ys)) : ∀ {ks : List NestedKey} {vs : List V}, NVs H ks vs → NVs H' ks vs
  | _, _, .nil => .nil
  | _, _, .cons a b => .cons (NV.mono e a) (NVs.mono e b)
end
abbrev NKvs := List (NestedKey × Addr × V)
def nRel (p : NestedKey × Addr × V) (q : NestedKey × Addr × Value) : Prop := p.1 = q.1 ∧ p.2.1 = q.2.1 ∧ RelV p.2.2 q.2.2
def valN (kvs : NKvs) (k : NestedKey) : Option V := (kvs.find? fun p => decide (p.1 = k)).map (·.2.2)
/-- what is true of the object of such a dict -/
def dnP (P : Program) (w : World) (a : Addr) (kvs : NKvs) (h : Heap) : Prop := kvs.length ≤ sizeLine ∧ (a == sysModules) = false ∧ ∃ xs : List (NestedKey × Addr × Value), Paired nRel kvs xs ∧
  ∃ o es ep, h.get? a = some o ∧ o.ExactDict ∧ o.data = .dict es ep ∧ es.toList = xs.map (entryOfKey (nestedKind P w)) ∧ (xs.map (·.1)).Nodup
def DN (P : Program) (w : World) (a : Addr) (kvs : NKvs) : HO := .ext (dnP P w a kvs)
/-- its keys stand as tuples, to depth 8 -/
def NKeys (H : Hp) (kvs : NKvs) : Prop := ∀ p ∈ kvs, NV H p.1 (.ref p.2.1) ∧ p.1.depth ≤ 8
theorem NKeys.mono {H H' : Hp} {kvs : NKvs} (h : NKeys H kvs) (e : ∀ b ys, H b = some (.tup ys) → H' b = some (.tup ys)) : NKeys H' kvs := fun p hp => ⟨(h p hp).1.mono e, (h p hp).2⟩
theorem NKeys.snoc {H : Hp} {kvs : NKvs} {k : NestedKey} {b : Addr} {v : V} (h : NKeys H kvs) (hk : NV H k (.ref b)) (hd : k.depth ≤ 8) : NKeys H (kvs ++ [(k, b, v)]) := fun p hp => by
  rcases List.mem_append.mp hp with m | m
  · exact h p m
  · rw [List.mem_singleton.mp m]; exact ⟨hk, hd⟩
theorem n_val {kvs : NKvs} {xs : List (NestedKey × Addr × Value)} (r : Paired nRel kvs xs) (k : NestedKey) : RelO (valN kvs k) ((atKey xs k).map (·.2)) := by
  induction r with
  | nil => exact True.intro
  | @cons p q ps qs hpq t ih =>
    obtain ⟨e1, _, e3⟩ := hpq
    unfold valN atKey at ih ⊢
    rw [List.find?_cons, List.find?_cons, ← e1]
    by_cases e : p.1 = k
    · rw [decide_eq_true e]; exact e3
    · rw [decide_eq_false e]; exact ih
theorem dn_ok {P : Program} {w : World} {H : Hp} {h : Heap} {a : Addr} {kvs : NKvs} (d : dnP P w a kvs h) : ObjOk P w H h a (DN P w a kvs) := by
  refine ⟨d, ?_, fun g1 g2 q st => ?_⟩
  · obtain ⟨_, _, _, _, o, _, _, e, _⟩ := d
    exact ⟨o, e⟩
  · obtain ⟨z, y, xs, r, o, es, ep, e, c⟩ := q
    exact ⟨z, y, xs, r, o, es, ep, st _ e, c⟩
theorem n_keys {P : Program} {w : World} {H : Hp} {h : Heap} (ok : HOk P w H h) {kvs : NKvs} {xs : List (NestedKey × Addr × Value)} (r : Paired nRel kvs xs) : NKeys H kvs → ∀ x ∈ xs, (nestedKind P w).is h x.1 x.2.1 := by
  induction r with
  | nil => intro _ x hx; cases hx
  | @cons p q ps qs hpq t ih =>
    intro hk x hx
    rcases List.mem_cons.mp hx with m | m
    · obtain ⟨n1, n2⟩ := hk p List.mem_cons_self
      rw [m, ← hpq.1, ← hpq.2.1]
      exact ⟨NV.is ok n1 rfl, n2⟩
    · exact ih (fun p' hp' => hk p' (List.mem_cons_of_mem _ hp')) x m
section
variable {X : Cx} {pins : List (Addr × Obj)} {σ : L2.St} {H : Hp} {s : Shared} {a b : Addr} {kvs : NKvs} {k : NestedKey} {A : Around} {E : Value → Shared → Prop}
theorem dn_at (I : Inv X pins σ H s) (e : H a = some (DN X.prog X.w a kvs)) (hk : NKeys H kvs) : kvs.length ≤ sizeLine ∧ (a == sysModules) = false ∧ ∃ xs, Paired nRel kvs xs ∧ s.heap.DictOfH (nestedKind X.prog X.w) a xs := by
  obtain ⟨⟨z, y, xs, r, o, es, ep, e1, e2, e3, e4, e5⟩, _⟩ := (show ObjOk X.prog X.w H s.heap a (DN X.prog X.w a kvs) from I.hok a _ e)
  exact ⟨z, y, xs, r, o, es, ep, e1, e2, e3, e4, n_keys I.hok r hk, e5⟩
theorem dn_getItem {v : V} {Q : Value → Shared → Prop} (ha : A.units + 9 < cLine) (I : Inv X pins σ H s) (e : H a = some (DN X.prog X.w a kvs)) (hk : NKeys H kvs) (nk : NV H k (.ref b)) (dk : k.depth ≤ 8) (l : valN kvs k = some v)
    (q : ∀ u s', Inv X pins σ H s' → RelV v u → Q u s') : wpAny (model X.prog X.w) A (getItem (.ref a) (.ref b)) Q E s := by
  obtain ⟨z, hd, xs, rel, dd⟩ := dn_at I e hk
  obtain ⟨u, hu, ru⟩ := RelO.some_of (v := v) (o := (atKey xs k).map (·.2)) (by rw [← l]; exact n_val rel k)
  obtain ⟨p, hp, hp2⟩ := Option.map_eq_some_iff.mp hu
  refine wpAny_getItem_heap (knd := nestedKind X.prog X.w) (by show A.in1.units + 8 < cLine; exact ha) ⟨NV.is I.hok nk rfl, dk⟩ dd hp ?_
  rw [hp2]
  exact q u _ (I.tok _) ru
theorem dn_in {Q : Value → Shared → Prop} (ha : A.units + 9 < cLine) (I : Inv X pins σ H s) (e : H a = some (DN X.prog X.w a kvs)) (hk : NKeys H kvs) (nk : NV H k (.ref b)) (dk : k.depth ≤ 8)
    (q : ∀ s', Inv X pins σ H s' → Q (.bool (valN kvs k).isSome) s') : wpAny (model X.prog X.w) A (compareOp .In (.ref b) (.ref a)) Q E s := by
  obtain ⟨z, hd, xs, rel, dd⟩ := dn_at I e hk
  refine wpAny_in_heap (knd := nestedKind X.prog X.w) (by show A.in1.units + 8 < cLine; exact ha) ⟨NV.is I.hok nk rfl, dk⟩ hd dd ?_
  have t := (n_val rel k).isSome_eq
  rw [Option.isSome_map] at t
  rw [← t]
  exact q _ (I.tok _)
theorem dn_notIn {Q : Value → Shared → Prop} (ha : A.units + 9 < cLine) (I : Inv X pins σ H s) (e : H a = some (DN X.prog X.w a kvs)) (hk : NKeys H kvs) (nk : NV H k (.ref b)) (dk : k.depth ≤ 8)
    (q : ∀ s', Inv X pins σ H s' → Q (.bool (!(valN kvs k).isSome)) s') : wpAny (model X.prog X.w) A (compareOp .NotIn (.ref b) (.ref a)) Q E s := by
  obtain ⟨z, hd, xs, rel, dd⟩ := dn_at I e hk
  refine wpAny_notIn_heap (knd := nestedKind X.prog X.w) (by show A.in1.units + 8 < cLine; exact ha) ⟨NV.is I.hok nk rfl, dk⟩ hd dd ?_
  have t := (n_val rel k).isSome_eq
  rw [Option.isSome_map] at t
  rw [← t]
  exact q _ (I.tok _)
/-- a new key is stored -/
theorem dn_setItem {v : V} {u : Value} {Q : Unit → Shared → Prop} (ha : A.units + 9 < cLine) (I : Inv X pins σ H s) (e : H a = some (DN X.prog X.w a kvs)) (hk : NKeys H kvs) (nk : NV H k (.ref b)) (dk : k.depth ≤ 8) (l : valN kvs k = none) (hl : kvs.length < sizeLine) (ru : RelV v u)
    (q : ∀ s', Inv X pins σ (upd H a (DN X.prog X.w a (kvs ++ [(k, b, v)]))) s' → Q () s') : wpAny (model X.prog X.w) A (setItem (.ref a) (.ref b) u) Q E s := by
  obtain ⟨z, hd, xs, rel, dd⟩ := dn_at I e hk
  have hz : xs.length ≤ sizeLine := by rw [← Paired.length rel]; exact z
  have hn : atKey xs k = none := by
    have t := (n_val rel k).isSome_eq
    rw [l, Option.isSome_map] at t
    cases m : atKey xs k with
    | none => rfl
    | some _ => rw [m] at t; cases t
  refine wpAny_setItem_heap (knd := nestedKind X.prog X.w) (hsz := hz) (by show A.in1.units + 8 < cLine; exact ha) ⟨NV.is I.hok nk rfl, dk⟩ dd fun h' dd' hs => q _ ?_
  rw [storedH_new hn] at dd'
  obtain ⟨o, es, ep, e1, e2, e3, e4, _, e5⟩ := dd'
  exact d_write I (by rw [e]; exact True.intro) hs ⟨o, e1⟩ (dn_ok ⟨by rw [List.length_append]; exact hl, hd, _, Paired.snoc rel ⟨rfl, rfl, ru⟩, o, es, ep, e1, e2, e3, e4, e5⟩)
end
theorem hn_of {A : Around} {k : Nat} (hr : Room k A) : A.units + 9 < cLine := by have := hr65 hr; omega
def nGetK (P : Program) (w : World) (Q : VK) (x : V) : VK := fun y J => ∃ (a b : Addr) (kvs : NKvs) (k : NestedKey) (v : V), x = .ref a ∧ y = .ref b ∧ J a = some (DN P w a kvs) ∧ NKeys J kvs ∧ NV J k (.ref b) ∧ k.depth ≤ 8 ∧ valN kvs k = some v ∧ Q v J
def tNGet (P : Program) (w : World) (td ty : TE) : TE := fun σ H Q => td σ H fun x J => ty σ J (nGetK P w Q x)
def nInK (P : Program) (w : World) (n : Bool) (Q : VK) (y : V) : VK := fun x J => ∃ (a b : Addr) (kvs : NKvs) (k : NestedKey), x = .ref a ∧ y = .ref b ∧ J a = some (DN P w a kvs) ∧ NKeys J kvs ∧ NV J k (.ref b) ∧ k.depth ≤ 8 ∧ Q (.bl (xor n (valN kvs k).isSome)) J
def tNIn (P : Program) (w : World) (n : Bool) (ty td : TE) : TE := fun σ H Q => ty σ H fun y J => td σ J (nInK P w n Q y)
def nPutK (P : Program) (w : World) (D : Ends) (σ : L2.St) (v x : V) : VK := fun y J => ∃ (a b : Addr) (kvs : NKvs) (k : NestedKey), x = .ref a ∧ y = .ref b ∧ J a = some (DN P w a kvs) ∧ NKeys J kvs ∧ NV J k (.ref b) ∧ k.depth ≤ 8 ∧ valN kvs k = none ∧ kvs.length < sizeLine ∧ D.nx σ (upd J a (DN P w a (kvs ++ [(k, b, v)])))
def sNPut (P : Program) (w : World) (td ty tv : TE) : TS := fun D σ H => tv σ H fun v H1 => td σ H1 fun x H2 => ty σ H2 (nPutK P w D σ v x)
def tNNew (P : Program) (w : World) : TE := fun _ H Q => ∀ p, H p = none → Q (.ref p) (upd H p (DN P w p []))
section
variable {X : Cx} {o i value : Expr} {pos pos' : Pos} {td ty tv : TE}
theorem pe_nget (ha : X.A.units + 9 < cLine) (po : PE X o td) (pi : PE X i ty) (ns : NoSl i) : PE X (.Subscript o i pos) (tNGet X.prog X.w td ty) := ⟨fun pins s σ H Q I q => by
  refine subD_of PySem.F.slot_dict_getitem.lookup ns (thn (po.run pins s σ H _ I q) fun u s1 ⟨x, J, IJ, rx, q1⟩ => thn (pi.run pins s1 σ J _ IJ q1) fun iv s2 ⟨y, L, IL, ry, a, b, kvs, k, v, ex, ey, e, hk, nk, dk, l, q2⟩ => ?_)
  subst ex ey
  obtain rfl : u = Value.ref a := rx
  obtain rfl : iv = Value.ref b := ry
  obtain ⟨_, _, xs, _, dd⟩ := dn_at IL e hk
  exact ⟨dd.typeIs, dn_getItem ha IL e hk nk dk l fun z s3 I3 rz => ⟨v, L, I3, rz, q2⟩⟩⟩
theorem pc_nin (ha : X.A.units + 9 < cLine) (pi : PE X i ty) (po : PE X o td) : PC X .In i o (tNIn X.prog X.w false ty td) := ⟨fun pins s σ H Q I q => by
  refine thn (pi.run pins s σ H _ I q) fun iv s1 ⟨y, J, IJ, ry, q1⟩ => thn (po.run pins s1 σ J _ IJ q1) fun u s2 ⟨x, L, IL, rx, a, b, kvs, k, ex, ey, e, hk, nk, dk, q2⟩ => ?_
  subst ex ey
  obtain rfl : u = Value.ref a := rx
  obtain rfl : iv = Value.ref b := ry
  exact dn_in ha IL e hk nk dk fun s3 I3 => ⟨.bl (valN kvs k).isSome, L, I3, rfl, by rw [Bool.false_xor] at q2; exact q2⟩⟩
theorem pc_nnotin (ha : X.A.units + 9 < cLine) (pi : PE X i ty) (po : PE X o td) : PC X .NotIn i o (tNIn X.prog X.w true ty td) := ⟨fun pins s σ H Q I q => by
  refine thn (pi.run pins s σ H _ I q) fun iv s1 ⟨y, J, IJ, ry, q1⟩ => thn (po.run pins s1 σ J _ IJ q1) fun u s2 ⟨x, L, IL, rx, a, b, kvs, k, ex, ey, e, hk, nk, dk, q2⟩ => ?_
  subst ex ey
  obtain rfl : u = Value.ref a := rx
  obtain rfl : iv = Value.ref b := ry
  exact dn_notIn ha IL e hk nk dk fun s3 I3 => ⟨.bl (!(valN kvs k).isSome), L, I3, rfl, by rw [Bool.true_xor] at q2; exact q2⟩⟩
theorem ps_nput (ha : X.A.units + 9 < cLine) (po : PE X o td) (pi : PE X i ty) (pv' : PE X value tv) (sw : swapsWith value (some (.Subscript o i pos')) pos.line X.env = pure false) : PS X (.Assign [.Subscript o i pos'] value pos) (sNPut X.prog X.w td ty tv) := ⟨fun pins s σ H D I q => by
  refine wpAny_Assign_Subscript (thn (pv'.run pins s σ H _ I q) fun r s1 ⟨v, J1, I1, rv, q1⟩ => thn (po.run pins s1 σ J1 _ I1 q1) fun u s2 ⟨x, J2, I2, rx, q2⟩ => thn (pi.run pins s2 σ J2 _ I2 q2) fun iv s3 ⟨y, J3, I3, ry, a, b, kvs, k, ex, ey, e, hk, nk, dk, l, hl, q3⟩ => ?_) sw
  subst ex ey
  obtain rfl : u = Value.ref a := rx
  obtain rfl : iv = Value.ref b := ry
  exact dn_setItem ha I3 e hk nk dk l hl rv fun s4 I4 => ⟨σ, _, I4, q3⟩⟩
theorem pe_nnew : PE X (.Dict [] [] pos) (tNNew X.prog X.w) := ⟨fun pins s σ H Q I q =>
  wpAny_Dict_empty ⟨.ref s.heap.objs.size, _, I.laid (a := s.heap.objs.size) (o := DN X.prog X.w s.heap.objs.size []) (t' := s.toks) (fun _ _ z => Heap.get?_push_of_some _ z) (Nat.le_refl _)
    (dn_ok ⟨Nat.zero_le _, beq_eq_false_iff_ne.mpr (Ne.symm (Nat.ne_of_lt I.big)), [], .nil, _, #[], 0, Heap.get?_push_size _ rfl, ⟨rfl, rfl, rfl⟩, rfl, rfl, List.nodup_nil⟩), rfl, q _ (I.hok.fresh (Nat.le_refl _))⟩⟩
end
section
variable {P : Program} {w : World} {σ : L2.St} {H : Hp} {Q : VK} {D : Ends} {td ty tv : TE} {a b : Addr} {kvs : NKvs} {k : NestedKey} {v : V} {n : Bool}
theorem q_tNGet (q : td σ H fun x J => ty σ J (nGetK P w Q x)) : tNGet P w td ty σ H Q := q
theorem q_nGetK (e : H a = some (DN P w a kvs)) (hk : NKeys H kvs) (nk : NV H k (.ref b)) (dk : k.depth ≤ 8) (l : valN kvs k = some v) (q : Q v H) : nGetK P w Q (.ref a) (.ref b) H := ⟨a, b, kvs, k, v, rfl, rfl, e, hk, nk, dk, l, q⟩
theorem q_tNIn (q : ty σ H fun y J => td σ J (nInK P w n Q y)) : tNIn P w n ty td σ H Q := q
theorem q_nInK (e : H a = some (DN P w a kvs)) (hk : NKeys H kvs) (nk : NV H k (.ref b)) (dk : k.depth ≤ 8) (q : Q (.bl (xor n (valN kvs k).isSome)) H) : nInK P w n Q (.ref b) (.ref a) H := ⟨a, b, kvs, k, rfl, rfl, e, hk, nk, dk, q⟩
theorem q_sNPut (q : tv σ H fun v H1 => td σ H1 fun x H2 => ty σ H2 (nPutK P w D σ v x)) : sNPut P w td ty tv D σ H := q
theorem q_nPutK (e : H a = some (DN P w a kvs)) (hk : NKeys H kvs) (nk : NV H k (.ref b)) (dk : k.depth ≤ 8) (l : valN kvs k = none) (hl : kvs.length < sizeLine) (q : D.nx σ (upd H a (DN P w a (kvs ++ [(k, b, v)])))) : nPutK P w D σ v (.ref a) (.ref b) H := ⟨a, b, kvs, k, rfl, rfl, e, hk, nk, dk, l, hl, q⟩
theorem q_tNNew (q : ∀ p, H p = none → Q (.ref p) (upd H p (DN P w p []))) : tNNew P w σ H Q := q
end
theorem pss_cls2 {X : Cx} {oe : Obj} {cls : Value} {d : Option Addr} {b : List Stmt} {C C2 : Addr} {t t2 : TS} (hz : Zc cls d oe) (h : Zc (.ref C) none oe → PSs X b t) (h2 : Zc (.ref C2) none oe → PSs X b t2) :
    PSs X b (fun D σ H => ((cls = .ref C ∧ d = none) ∧ t D σ H) ∨ ((cls = .ref C2 ∧ d = none) ∧ t2 D σ H)) := ⟨fun pins s σ H D I q => by
  rcases q with ⟨⟨e1, e2⟩, q⟩ | ⟨⟨e1, e2⟩, q⟩
  · rw [e1, e2] at hz; exact (h hz).run pins s σ H D I q
  · rw [e1, e2] at hz; exact (h2 hz).run pins s σ H D I q⟩
theorem passF {P : Program} {w : World} {X : Cx} : Passes (L2.CX P w) X E0 := fun _ _ _ _ _ _ _ h => by
  obtain ⟨_, _, _, _, _, _, _, _, _, _, _, _, h⟩ := h
  exact h.elim

theorem q_nxE {D : Ends} {σ : L2.St} {H : Hp} {n : L2.St → Hp → Prop} {r : VK} {b c : L2.St → Hp → Prop} (e : D = ⟨n, r, b, c⟩) (h : n σ H) : D.nx σ H := by rw [e]; exact h
theorem q_rtE {D : Ends} {v : V} {H : Hp} {n : L2.St → Hp → Prop} {r : VK} {b c : L2.St → Hp → Prop} (e : D = ⟨n, r, b, c⟩) (h : r v H) : D.rt v H := by rw [e]; exact h
theorem q_bkE {D : Ends} {σ : L2.St} {H : Hp} {n : L2.St → Hp → Prop} {r : VK} {b c : L2.St → Hp → Prop} (e : D = ⟨n, r, b, c⟩) (h : b σ H) : D.bk σ H := by rw [e]; exact h
theorem q_cnE {D : Ends} {σ : L2.St} {H : Hp} {n : L2.St → Hp → Prop} {r : VK} {b c : L2.St → Hp → Prop} (e : D = ⟨n, r, b, c⟩) (h : c σ H) : D.ct σ H := by rw [e]; exact h
theorem q_bodyG {D : Ends} {t : TS} {σ : L2.St} {H : Hp} (h : ∀ (N : L2.St → Hp → Prop) (R : VK) (B C : L2.St → Hp → Prop), (∀ σ H, D.nx σ H → N σ H) → t ⟨N, R, B, C⟩ σ H) : t D σ H := h D.nx D.rt D.bk D.ct fun _ _ q => q
/-! an attribute or an item changed by an operator; a list unpacked; the sum over a dict's keys -/
section
variable {K : PySem.W.Frag} {σ : L2.St} {H : Hp} {Q : VK} {D : Ends} {a C dx : Addr} {v : V} {i j : Int} {ta tv td ty : TE} {rd : V → V → Hp → VK → Prop} {f s : Str} {fs : List (Str × V)} {kvs : List (Key × V)}
def faug2 (rd : V → V → Hp → VK → Prop) (v : V) (f : Str) (a C : Addr) (D : Ends) (σ : L2.St) : VK := fun y H2 => rd v y H2 fun z H3 => ∃ dx' fs', H3 a = some (.ins C dx' fs') ∧ fs'.length < 1000 ∧ D.nx σ (upd H3 a (.ins C dx' (putF f z fs')))
def faugK (K : PySem.W.Frag) (tv : TE) (rd : V → V → Hp → VK → Prop) (f : Str) (D : Ends) (σ : L2.St) : VK := fun x H1 => ∃ a C dx fs v, x = .ref a ∧ H1 a = some (.ins C dx fs) ∧ Cls K C ∧ NoAttr K C f ∧ fs.lookup f = some v ∧ tv σ H1 (faug2 rd v f a C D σ)
theorem q_sFldAug (h : ta σ H (faugK K tv rd f D σ)) : sFldAug K ta tv rd f D σ H := h
theorem q_faugK (h : H a = some (.ins C dx fs)) (hc : Cls K C) (hn : NoAttr K C f) (hl : fs.lookup f = some v) (k : tv σ H (faug2 rd v f a C D σ)) : faugK K tv rd f D σ (.ref a) H := ⟨a, C, dx, fs, v, rfl, h, hc, hn, hl, k⟩
theorem q_faugA (h : H a = some (.ins C dx fs)) (hl : fs.length < 1000) (k : D.nx σ (upd H a (.ins C dx (putF f (.int (i + j)) fs)))) : faug2 rAdd (.int i) f a C D σ (.int j) H := ⟨i, j, rfl, rfl, dx, fs, h, hl, k⟩
theorem q_faugS (h : H a = some (.ins C dx fs)) (hl : fs.length < 1000) (k : D.nx σ (upd H a (.ins C dx (putF f (.int (i - j)) fs)))) : faug2 rSub (.int i) f a C D σ (.int j) H := ⟨i, j, rfl, rfl, dx, fs, h, hl, k⟩
def daug2 (rd : V → V → Hp → VK → Prop) (D : Ends) (σ : L2.St) (v : V) (a : Addr) (y : V) : VK := fun y2 H3 => rd v y2 H3 fun z H4 => ∃ H5, DPut H4 a y z H5 ∧ D.nx σ H5
def daugK (tv : TE) (rd : V → V → Hp → VK → Prop) (D : Ends) (σ : L2.St) (x : V) : VK := fun y H2 => ∃ a v, x = .ref a ∧ DGet H2 a y (some v) ∧ tv σ H2 (daug2 rd D σ v a y)
theorem q_sDAug (h : td σ H fun x H1 => ty σ H1 (daugK tv rd D σ x)) : sDAug td ty tv rd D σ H := h
theorem q_daugK (h : H a = some (.dK kvs)) (hv : valV kvs (.inr s) = some v) (k : tv σ H (daug2 rd D σ v a (.str s))) : daugK tv rd D σ (.ref a) (.str s) H := ⟨a, v, rfl, by rw [← hv]; exact DGet.k (k := Sum.inr s) h, k⟩
theorem q_daugS (h : H a = some (.dK kvs)) (hl : kvs.length < sizeLine) (k : D.nx σ (upd H a (.dK (putK kvs (.inr s) (.int (i - j)))))) : daug2 rSub D σ (.int i) a (.str s) (.int j) H := ⟨i, j, rfl, rfl, _, DPut.k (k := Sum.inr s) h hl, k⟩
theorem q_daugA (h : H a = some (.dK kvs)) (hl : kvs.length < sizeLine) (k : D.nx σ (upd H a (.dK (putK kvs (.inr s) (.int (i + j)))))) : daug2 rAdd D σ (.int i) a (.str s) (.int j) H := ⟨i, j, rfl, rfl, _, DPut.k (k := Sum.inr s) h hl, k⟩
end
def rMulStr01 : R2 := fun x y H Q => ∃ s, x = .str s ∧ ((y = .int 1 ∧ Q (.str s) H) ∨ (y = .int 0 ∧ Q (.str Str.empty) H))
theorem oq_mulStr01 {X : Cx} : OpR X (binaryOp .Mult) rMulStr01 := by
  intro pins s σ H x y v u Q I rx ry h
  obtain ⟨z, rfl, h⟩ := h
  obtain ⟨t, rfl⟩ := rx
  rcases h with ⟨rfl, q⟩ | ⟨rfl, q⟩
  · obtain ⟨t', rfl⟩ := ry
    refine PySem.P.mul_str (by decide) (fun _ h => by cases h) (fun _ h => by cases h) ?_
    rw [if_neg (show ¬ (1 : Int) < 1 by omega), if_pos (by rfl)]
    exact ⟨.str z, H, I, ⟨_, rfl⟩, q⟩
  · obtain ⟨t', rfl⟩ := ry
    exact PySem.P.mul_str_none (by decide) (by decide) ⟨.str Str.empty, H, I.tok _, ⟨_, rfl⟩, q⟩
theorem q_mul1 {H : Hp} {Q : VK} {s : Str} (k : Q (.str s) H) : rMulStr01 (.str s) (.int 1) H Q := ⟨s, rfl, .inl ⟨rfl, k⟩⟩
theorem q_mul0 {H : Hp} {Q : VK} {s : Str} (k : Q (.str Str.empty) H) : rMulStr01 (.str s) (.int 0) H Q := ⟨s, rfl, .inr ⟨rfl, k⟩⟩
theorem q_int1f {H : Hp} {Q : VK} (k : Q (.int 0) H) : rInt1 [.bl false] H Q := .inr ⟨false, rfl, k⟩
/-! a walk over a dict's own keys, reading it -/
theorem q_unl {K : PySem.W.Frag} {σ : L2.St} {H : Hp} {a : Addr} {xs : List V} {n : Nat} {tg : TGs} {R : L2.St → Hp → Prop} (h : SqL K H a xs) (hn : xs.length = n) (k : tg xs σ H R) : gUnl K n tg (.ref a) σ H R := ⟨a, xs, rfl, h, hn, k⟩
/-! while -/
section
variable {σ : L2.St} {H : Hp} {D : Ends} {c : TT} {tb : TS}
def whK (tb : TS) (D : Ends) (Pv : Nat → L2.St → Hp → Prop) (m : Nat) (σ : L2.St) : Bool → Hp → Prop := fun b H1 => if b = true then ∃ N : L2.St → Hp → Prop, (∀ σ' H', N σ' H' → ∃ m', m' < m ∧ Pv m' σ' H') ∧ tb { D with nx := N, ct := N, bk := D.nx } σ H1 else D.nx σ H1
theorem q_while (Pv : Nat → L2.St → Hp → Prop) {m0 : Nat} (h0 : Pv m0 σ H) (hs : ∀ m σ H, Pv m σ H → c σ H (whK tb D Pv m σ)) : tWhile c tb D σ H := ⟨Pv, ⟨m0, h0⟩, hs⟩
theorem q_whT {Pv : Nat → L2.St → Hp → Prop} {m : Nat} (h : tb { D with nx := fun σ' H' => ∃ m', m' < m ∧ Pv m' σ' H', ct := fun σ' H' => ∃ m', m' < m ∧ Pv m' σ' H', bk := D.nx } σ H) : whK tb D Pv m σ true H := iteT ⟨_, fun _ _ h => h, h⟩
theorem q_whF {Pv : Nat → L2.St → Hp → Prop} {m : Nat} (h : D.nx σ H) : whK tb D Pv m σ false H := iteF h
theorem q_wh2 {Pv : Nat → L2.St → Hp → Prop} {m : Nat} {b : Bool} (h : b = true → tb { D with nx := fun σ' H' => ∃ m', m' < m ∧ Pv m' σ' H', ct := fun σ' H' => ∃ m', m' < m ∧ Pv m' σ' H', bk := D.nx } σ H) (h2 : b = false → D.nx σ H) : whK tb D Pv m σ b H := by
  cases b with
  | true => exact q_whT (h rfl)
  | false => exact q_whF (h2 rfl)
end
/-! one suite for several classes; get of one argument; del of an item of a dict; index; dict of pairs -/
theorem pss_clsC {X : Cx} {oe : Obj} {cls : Value} {d : Option Addr} {b : List Stmt} {C : Addr} {t t2 : TS} (hz : Zc cls d oe) (h : Zc (.ref C) none oe → PSs X b t) (h2 : PSs X b t2) :
    PSs X b (fun D σ H => ((cls = .ref C ∧ d = none) ∧ t D σ H) ∨ t2 D σ H) := ⟨fun pins s σ H D I q => by
  rcases q with ⟨⟨e1, e2⟩, q⟩ | q
  · rw [e1, e2] at hz; exact (h hz).run pins s σ H D I q
  · exact h2.run pins s σ H D I q⟩
section
variable {K : PySem.W.Frag} {σ : L2.St} {H : Hp} {Q : VK} {D : Ends} {a l : Addr} {v : V} {i : Int} {td ty : TE} {kvs : List (Key × V)} {s : Str}
def dG1K (Q : VK) (a : Addr) : VK := fun y H2 => ∃ o, DGet H2 a y o ∧ Q (o.getD .non) H2
def dG1a (ty : TE) (σ : L2.St) (Q : VK) : VK := fun x H1 => ∃ a, x = .ref a ∧ IsD H1 a ∧ ty σ H1 (dG1K Q a)
theorem q_tDGet1 (h : td σ H (dG1a ty σ Q)) : tDGet1 td ty σ H Q := h
theorem q_dG1a (h : H a = some (.dK kvs)) (k : ty σ H (dG1K Q a)) : dG1a ty σ Q (.ref a) H := ⟨a, rfl, .inl ⟨kvs, .inl h⟩, k⟩
theorem q_dG1S (h : H a = some (.dK kvs)) (k : Q ((valV kvs (.inr s)).getD .non) H) : dG1K Q a (.str s) H := ⟨_, DGet.k (k := Sum.inr s) h, k⟩
theorem q_dG1I (h : H a = some (.dK kvs)) (k : Q ((valV kvs (.inl i)).getD .non) H) : dG1K Q a (.int i) H := ⟨_, DGet.k (k := Sum.inl i) h, k⟩
def ddelK (D : Ends) (σ : L2.St) (x : V) : VK := fun y H2 => ∃ a kvs k, x = .ref a ∧ H2 a = some (.dK kvs) ∧ y = kV k ∧ (valV kvs k).isSome = true ∧ D.nx σ (upd H2 a (.dK (dropK kvs k)))
theorem q_sDDel (h : td σ H fun x H1 => ty σ H1 (ddelK D σ x)) : sDDel td ty D σ H := h
theorem q_ddelI (h : H a = some (.dK kvs)) (hs : (valV kvs (.inl i)).isSome = true) (k : D.nx σ (upd H a (.dK (dropK kvs (.inl i))))) : ddelK D σ (.ref a) (.int i) H := ⟨a, kvs, .inl i, rfl, h, rfl, hs, k⟩
theorem q_index {ys : List V} {y z : V} {j : Nat} (h : SqL K H a ys) (hy : flatV y = true) (ha : ys.all flatV = true) (hz : ys[j]? = some z) (he : eqV z y = true) (hf : ∀ (m : Nat) (z' : V), m < j → ys[m]? = some z' → eqV z' y = false) (k : Q (.int (j : Nat)) H) : rIndex K (.ref a) [y] H Q := ⟨a, ys, y, j, z, rfl, rfl, h, hy, ha, hz, he, hf, k⟩
theorem q_dSdS' {z : V} (h : H a = some (.dK kvs)) (hl : kvs.length < sizeLine) (k1 : ∀ v, valV kvs (.inr s) = some v → Q v H) (k2 : valV kvs (.inr s) = none → Q z (upd H a (.dK (putK kvs (.inr s) z)))) : dSdK Q a (.str s) z H := ⟨kvs, .inr s, h, rfl, hl, k1, k2⟩
def rDictP (K : PySem.W.Frag) : List V → Hp → VK → Prop := fun xs H Q => ∃ (a : Addr) (ps : List Addr) (kvs : List (Key × V)), xs = [.ref a] ∧ SqL K H a (ps.map V.ref) ∧ Paired (fun p kv => SqT K H p [kV kv.1, kv.2]) ps kvs ∧ ∀ p, H p = none → Q (.ref p) (upd H p (.dK (mergeK [] kvs)))
theorem cq_dictP {X : Cx} (hc : X.calm = true) : CallR X (.type "dict") (rDictP X.K) := call_dictP hc
def rLenD' : List V → Hp → VK → Prop := rLenD
theorem q_lenD (h : H a = some (.dK kvs)) (k : Q (.int kvs.length) H) : rLenD [.ref a] H Q := ⟨a, kvs, rfl, h, k⟩
theorem q_inL' {xs : List V} {x : V} (h : SqL K H l xs) (hx : flatV x = true) (ha : xs.all flatV = true) (k : Q (.bl (!inV x xs)) H) : rIn K true x (.ref l) H Q := ⟨l, xs, rfl, .inl h, hx, ha, k⟩
theorem q_eqB {c d : Bool} (k : Q (.bl (c == d)) H) : rEq (.bl c) (.bl d) H Q := ⟨rfl, by
  have e : decide (V.bl c = V.bl d) = (c == d) := by cases c <;> cases d <;> rfl
  rw [e]; exact k⟩
end
/-! a walk over a list that its body leaves ahead of the list's end: also within an except suite -/
def tForX (K : PySem.W.Frag) (te : TE) (g : TG) (tb : TS) : TS := fun D τ L => te τ L fun v M => ∃ (a : Addr) (ys : List V) (Pv : Nat → L2.St → Hp → Prop), v = .ref a ∧ SqL K M a ys ∧ Pv 0 τ M ∧
  ∀ n τ1 L1, Pv n τ1 L1 → SqL K L1 a ys ∧ ∃ y, ys[n]? = some y ∧ g y τ1 L1 fun τ2 L2 => tb { D with nx := Pv (n + 1), ct := Pv (n + 1), bk := D.nx } τ2 L2
theorem ps_forX {X : Cx} {tg l : Expr} {bd : List Stmt} {te : TE} {g : TG} {tb : TS} {ps : Pos} (own : PassesOwn (model X.prog X.w) X.A X.env X.xe) (hl : PE X l te) (hg : PG X tg g) (hb : PSs X bd tb)
    (fs : ∀ x, foldedSetIterable l X.env x = pure x := by intro _; rfl) : PS X (.For tg l bd [] ps) (tForX X.K te g tb) := by
  refine ⟨fun pn s0 τ0 L0 D J0 q0 => ?_⟩
  refine wpAny_For (thn (hl.run pn s0 τ0 L0 _ J0 q0) fun v0 sA ⟨x0, LA, JA, rA, a, ys, Pv, e0, hys, p0, turn⟩ => ?_) fs
  subst e0
  cases rA
  obtain ⟨_, _, isl, _⟩ := JA.list hys
  refine wpAny_pyIter_list isl.isList ?_
  have fok0 : FpOk X pn LA sA.heap.objs.size := JA.fpOk (Nat.le_refl _) (JA.hok.fresh (Nat.le_refl _))
  generalize hwalk : sA.heap.objs.size = wk at *
  have JB : Inv X pn τ0 LA { sA with heap := sA.heap.push { cls := .type "list_iterator", data := .fields #[.ref a, rawInt 0] } } := JA.kept (t' := sA.toks) fun b o e => Heap.get?_push_of_some _ e
  refine codeAny_forLoop_any (fun m s => ∃ n τ L, Inv X pn τ L s ∧ s.heap.IsListIter wk a n ∧ L wk = none ∧ Pv n τ L ∧ m + n = ys.length) ?_ ys.length ⟨0, τ0, LA, JB, ⟨_, by rw [← hwalk]; exact Heap.get?_push_size _ rfl, rfl, rfl⟩, fok0.1, p0, rfl⟩
  rintro m sB ⟨n, τ1, L1, J1, it1, none1, p1, hmn⟩
  obtain ⟨hys1, y, hy, st1⟩ := turn n τ1 L1 p1
  have hlt : n < ys.length := (List.getElem?_eq_some_iff.mp hy).1
  obtain ⟨_, rv1, isl1, _⟩ := J1.list hys1
  obtain ⟨u, hu, ru⟩ := rv1.get hy
  obtain ⟨_, z1, z2, z3, z4, z5⟩ := fok0
  refine wpAny_passesOwn own (wpAny_pyNext_list_item it1 isl1.isList (x := u) (by simpa using hu) fun h' it2 sb => ?_)
  have J2 : Inv X pn τ1 L1 { sB with heap := h' } := J1.turned (t' := sB.toks) (fun b o ne e => (sb.2 b ne).trans e) none1 z1 z3 z4 z5
  obtain ⟨oi, ei, ci, di⟩ := id it2
  refine wpAny_passesOwn own (go_of (s := { sB with heap := h' }) ei ci di (by decide) ?_)
  have hnc : ∀ v, oi.data ≠ .cell v := fun v z => by rw [di] at z; cases z
  have J3 : Inv X (pn ++ pinsAt [wk] h') τ1 L1 { sB with heap := h' } := J2.pinned (fun b hb => by rw [List.mem_singleton.mp hb]; exact ⟨none1, z1, z2, z3, z4, z5⟩) fun b hb => by rw [List.mem_singleton.mp hb]; exact ⟨oi, ei, hnc⟩
  have back : ∀ {τ L s}, Inv X (pn ++ pinsAt [wk] h') τ L s → Pv (n + 1) τ L → ∃ k, k < m ∧ ∃ n τ L, Inv X pn τ L s ∧ s.heap.IsListIter wk a n ∧ L wk = none ∧ Pv n τ L ∧ k + n = ys.length := fun {τ L s} J p => by
    obtain ⟨r1, r2, _⟩ := J.pin (wk, oi) (List.mem_append_right _ (List.mem_append_right _ (mem_pinsAt (List.mem_singleton.mpr rfl) ei)))
    exact ⟨m - 1, by omega, n + 1, τ, L, J.unpinned, ⟨oi, r1, ci, di⟩, r2, p, by omega⟩
  refine wpAny_passesOwn own (thn (hg.run _ _ τ1 L1 y u _ J3 ru st1) fun _ sC ⟨τ2, L2, J4, q4⟩ => ?_)
  refine wpAny_passesOwn own (thn (hb.run _ sC τ2 L2 _ J4 q4) fun fl sD q5 => ?_)
  cases fl with
  | next => obtain ⟨τ5, L5, J5, p5⟩ := q5; exact back J5 p5
  | cont => obtain ⟨τ5, L5, J5, p5⟩ := q5; exact back J5 p5
  | brk => obtain ⟨τ5, L5, J5, p5⟩ := q5; exact ⟨τ5, L5, J5.unpinned, p5⟩
  | ret v => obtain ⟨x5, τ5, L5, J5, r5, p5⟩ := q5; exact ⟨x5, τ5, L5, J5.unpinned, r5, p5⟩
theorem q_forX {K : PySem.W.Frag} {τ : L2.St} {M : Hp} {te : TE} {g : TG} {tb : TS} {D : Ends} (h : te τ M fun v M => ∃ (a : Addr) (ys : List V) (Pv : Nat → L2.St → Hp → Prop), v = .ref a ∧ SqL K M a ys ∧ Pv 0 τ M ∧
  ∀ n τ1 L1, Pv n τ1 L1 → SqL K L1 a ys ∧ ∃ y, ys[n]? = some y ∧ g y τ1 L1 fun τ2 L2 => tb { D with nx := Pv (n + 1), ct := Pv (n + 1), bk := D.nx } τ2 L2) : tForX K te g tb D τ M := h
theorem ps_forXK {K : PySem.W.Frag} {X : Cx} {tg l : Expr} {bd : List Stmt} {te : TE} {g : TG} {tb : TS} {ps : Pos} (hK : X.K = K) (own : PassesOwn (model X.prog X.w) X.A X.env X.xe) (hl : PE X l te) (hg : PG X tg g) (hb : PSs X bd tb)
    (fs : ∀ x, foldedSetIterable l X.env x = pure x := by intro _; rfl) : PS X (.For tg l bd [] ps) (tForX K te g tb) := hK ▸ ps_forX own hl hg hb fs
theorem ix_tupK {K : PySem.W.Frag} {X : Cx} (hK : X.K = K) : IxR X (rIxT K) := hK ▸ ix_tup
theorem ix_listK {K : PySem.W.Frag} {X : Cx} (hK : X.K = K) : IxR X (rIxL K) := hK ▸ ix_list
def mkA (C : Addr) (sp : Sp) (E : XK) (Q : VK) : List V → Hp → Prop := fun vs J => ∀ x dx, J x = none → J dx = none → dx ≠ x → sp (.ref x :: vs) (upd (upd J dx (.own x)) x (.ins C dx [])) (fun v L => v = .non ∧ Q (.ref x) L) E
theorem q_tMake {C : Addr} {sp : Sp} {E : XK} {t : TA} {σ : L2.St} {H : Hp} {Q : VK} (h : t σ H (mkA C sp E Q)) : tMake C sp [] E t σ H Q := by
  unfold tMake
  have e : mkA C sp E Q = fun vs J => ∀ x dx, J x = none → J dx = none → dx ≠ x → sp (.ref x :: (vs ++ [])) (upd (upd J dx (.own x)) x (.ins C dx [])) (fun v L => v = .non ∧ Q (.ref x) L) E := by
    funext vs J
    unfold mkA
    rw [List.append_nil]
  rw [← e]
  exact h

local macro_rules | `(tactic| walk_at "my_rd") => `(tactic| (repeat first
  | with_reducible refine q_tCons ?_
  | ((with_reducible apply q_var); (focus (exact rfl)))
  | with_reducible refine q_c ?_
  | ((with_reducible apply q_nxE); (focus (with_reducible exact rfl)))
  | with_reducible refine q_bK ?_
  | with_reducible refine q_call ?_
  | with_reducible refine q_callK ?_
  | with_reducible refine q_tNil ?_
  | with_reducible refine q_cb ?_
  | with_reducible refine q_seq ?_
  | with_reducible refine q_asg ?_
  | with_reducible refine q_gName ?_
  | with_reducible refine q_op ?_
  | with_reducible refine q_test ?_
  | with_reducible refine q_tB ?_
  | with_reducible refine q_ifS ?_
  | with_reducible refine q_ret ?_
  | ((with_reducible apply q_rtE); (focus (with_reducible exact rfl)))
  | with_reducible refine q_next ?_
  | with_reducible refine q_ifF ?_
  | with_reducible refine q_ifT ?_
  | with_reducible refine q_drop ?_
  | with_reducible refine q_and ?_
  | with_reducible refine q_or ?_
  | with_reducible refine q_andT ?_
  | with_reducible refine q_andF ?_
  | with_reducible refine q_orF ?_
  | with_reducible refine q_orT ?_
  | with_reducible refine q_andV ?_
  | with_reducible refine q_andVT ?_
  | with_reducible refine q_andVF ?_
  | with_reducible refine q_orV ?_
  | with_reducible refine q_gCons ?_
  | with_reducible refine q_gNil ?_
  | with_reducible refine q_tup ?_
  | with_reducible refine q_lst ?_
  | with_reducible refine q_not ?_
  | with_reducible refine q_notKT ?_
  | with_reducible refine q_notKF ?_
  | with_reducible refine q_I0 ?_
  | with_reducible refine q_eqI ?_
  | with_reducible refine q_neI ?_
  | ((with_reducible refine q_I ?_ ?_); first | decide | omega | exact ⟨by omega, by omega⟩ | exact ⟨by decide, by decide⟩ | exact .inl ⟨by omega, by omega⟩ | exact .inr ⟨by omega, by omega⟩ | exact .inr ⟨by decide, by decide⟩)
  | with_reducible refine q_eqS ?_
  | with_reducible refine q_neS ?_
  | with_reducible refine q_brk ?_
  | with_reducible refine q_ct ?_
  | ((with_reducible apply q_bkE); (focus (with_reducible exact rfl)))
  | ((with_reducible apply q_cnE); (focus (with_reducible exact rfl)))
  | with_reducible refine q_retN ?_
  | with_reducible refine q_gSub ?_
  | with_reducible refine q_for ?_
  | with_reducible refine q_iList ?_
  | with_reducible refine q_iTup ?_
  | with_reducible refine q_iRng1 ?_
  | with_reducible refine q_notK ?_
  | with_reducible refine q_orVT ?_
  | with_reducible refine q_orVF ?_
  | with_reducible refine q_notV ?_
  | with_reducible refine q_notVK ?_
  | with_reducible refine q_ifE ?_
  | with_reducible refine q_ifET ?_
  | with_reducible refine q_ifEF ?_
  | with_reducible refine q_yes ?_
  | with_reducible refine q_un ?_
  | with_reducible refine q_rU ?_
  | with_reducible refine q_abs ?_
  | with_reducible refine q_int1 ?_
  | with_reducible refine q_bm ?_
  | with_reducible refine q_bm0 ?_
  | with_reducible refine q_lc ?_
  | with_reducible refine q_keepT ?_
  | with_reducible refine q_keepF ?_
  | ((with_reducible apply q_aug); (focus (exact rfl)))
  | with_reducible refine q_ipI ?_
  | with_reducible refine q_chain ?_
  | with_reducible refine q_pairC ?_
  | with_reducible refine q_pairsK ?_
  | with_reducible refine q_pairN ?_
  | with_reducible refine q_fld ?_
  | with_reducible refine q_sFld ?_
  | with_reducible refine q_meth ?_
  | with_reducible refine q_makeK ?_
  | with_reducible refine q_isBl ?_
  | with_reducible refine q_notBl ?_
  | with_reducible refine q_sl ?_
  | with_reducible refine q_noPart ?_
  | with_reducible refine q_part ?_
  | with_reducible refine q_partK ?_
  | ((with_reducible apply q_mulStr); (focus (decide +kernel)))
  | with_reducible refine q_chT ?_
  | with_reducible refine q_chF ?_
  | with_reducible refine q_ord ?_
  | with_reducible refine q_iStr0 ?_
  | with_reducible refine q_iStr ?_
  | with_reducible refine q_tDIn ?_
  | with_reducible refine q_tDNotIn ?_
  | with_reducible refine q_tDGet ?_
  | with_reducible refine q_tDGet2 ?_
  | with_reducible refine q_tDGet1 ?_
  | with_reducible refine q_tDSetd ?_
  | ((with_reducible apply q_dG2a); (focus ((repeat first | (with_reducible exact upd_same) | (with_reducible assumption) | (with_reducible apply upd_new (by assumption)) | (with_reducible apply upd_other (by first | assumption | exact Ne.symm (by assumption))) | (with_reducible refine' Kp.get (by assumption) ?_ (by first | assumption | exact Ne.symm (by assumption))) | (with_reducible apply Same.get (by assumption))); done)))
  | ((with_reducible apply q_dSda); (focus ((repeat first | (with_reducible exact upd_same) | (with_reducible assumption) | (with_reducible apply upd_new (by assumption)) | (with_reducible apply upd_other (by first | assumption | exact Ne.symm (by assumption))) | (with_reducible refine' Kp.get (by assumption) ?_ (by first | assumption | exact Ne.symm (by assumption))) | (with_reducible apply Same.get (by assumption))); done)))
  | with_reducible refine q_sDPut ?_
  | ((with_reducible apply q_dInS); (focus ((repeat first | (with_reducible exact upd_same) | (with_reducible assumption) | (with_reducible apply upd_new (by assumption)) | (with_reducible apply upd_other (by first | assumption | exact Ne.symm (by assumption))) | (with_reducible refine' Kp.get (by assumption) ?_ (by first | assumption | exact Ne.symm (by assumption))) | (with_reducible apply Same.get (by assumption))); done)))
  | ((with_reducible apply q_dNInS); (focus ((repeat first | (with_reducible exact upd_same) | (with_reducible assumption) | (with_reducible apply upd_new (by assumption)) | (with_reducible apply upd_other (by first | assumption | exact Ne.symm (by assumption))) | (with_reducible refine' Kp.get (by assumption) ?_ (by first | assumption | exact Ne.symm (by assumption))) | (with_reducible apply Same.get (by assumption))); done)))
  | ((with_reducible apply q_dInI); (focus ((repeat first | (with_reducible exact upd_same) | (with_reducible assumption) | (with_reducible apply upd_new (by assumption)) | (with_reducible apply upd_other (by first | assumption | exact Ne.symm (by assumption))) | (with_reducible refine' Kp.get (by assumption) ?_ (by first | assumption | exact Ne.symm (by assumption))) | (with_reducible apply Same.get (by assumption))); done)))
  | ((with_reducible apply q_dNInI); (focus ((repeat first | (with_reducible exact upd_same) | (with_reducible assumption) | (with_reducible apply upd_new (by assumption)) | (with_reducible apply upd_other (by first | assumption | exact Ne.symm (by assumption))) | (with_reducible refine' Kp.get (by assumption) ?_ (by first | assumption | exact Ne.symm (by assumption))) | (with_reducible apply Same.get (by assumption))); done)))
  | ((with_reducible apply q_bmL); (focus ((repeat first | (with_reducible exact upd_same) | (with_reducible assumption) | (with_reducible apply upd_new (by assumption)) | (with_reducible apply upd_other (by first | assumption | exact Ne.symm (by assumption))) | (with_reducible refine' Kp.get (by assumption) ?_ (by first | assumption | exact Ne.symm (by assumption))) | (with_reducible apply Same.get (by assumption))); done)))
  | ((with_reducible apply q_bmL0); (focus ((repeat first | (with_reducible exact upd_same) | (with_reducible assumption) | (with_reducible apply upd_new (by assumption)) | (with_reducible apply upd_other (by first | assumption | exact Ne.symm (by assumption))) | (with_reducible refine' Kp.get (by assumption) ?_ (by first | assumption | exact Ne.symm (by assumption))) | (with_reducible apply Same.get (by assumption))); done)))
  | ((with_reducible apply q_ixLt); (focus ((repeat first | (with_reducible exact upd_same) | (with_reducible assumption) | (with_reducible apply upd_new (by assumption)) | (with_reducible apply upd_other (by first | assumption | exact Ne.symm (by assumption))) | (with_reducible refine' Kp.get (by assumption) ?_ (by first | assumption | exact Ne.symm (by assumption))) | (with_reducible apply Same.get (by assumption))); done)); (focus (exact rfl)))
  | ((with_reducible apply q_ixTt); (focus ((repeat first | (with_reducible exact upd_same) | (with_reducible assumption) | (with_reducible apply upd_new (by assumption)) | (with_reducible apply upd_other (by first | assumption | exact Ne.symm (by assumption))) | (with_reducible refine' Kp.get (by assumption) ?_ (by first | assumption | exact Ne.symm (by assumption))) | (with_reducible apply Same.get (by assumption))); done)); (focus (exact rfl)))
  | ((with_reducible apply q_lenLt); (focus ((repeat first | (with_reducible exact upd_same) | (with_reducible assumption) | (with_reducible apply upd_new (by assumption)) | (with_reducible apply upd_other (by first | assumption | exact Ne.symm (by assumption))) | (with_reducible refine' Kp.get (by assumption) ?_ (by first | assumption | exact Ne.symm (by assumption))) | (with_reducible apply Same.get (by assumption))); done)))
  | ((with_reducible apply q_lenTt); (focus ((repeat first | (with_reducible exact upd_same) | (with_reducible assumption) | (with_reducible apply upd_new (by assumption)) | (with_reducible apply upd_other (by first | assumption | exact Ne.symm (by assumption))) | (with_reducible refine' Kp.get (by assumption) ?_ (by first | assumption | exact Ne.symm (by assumption))) | (with_reducible apply Same.get (by assumption))); done)))
  | ((with_reducible apply q_append); (focus ((repeat first | (with_reducible exact upd_same) | (with_reducible assumption) | (with_reducible apply upd_new (by assumption)) | (with_reducible apply upd_other (by first | assumption | exact Ne.symm (by assumption))) | (with_reducible refine' Kp.get (by assumption) ?_ (by first | assumption | exact Ne.symm (by assumption))) | (with_reducible apply Same.get (by assumption))); done)); (focus ((first | (exact Nat.lt_of_ble_eq_true rfl) | (simp only [List.length_append, List.length_cons, List.length_nil, List.length_map]; exact small1000 (by omega))))))
  | ((with_reducible apply q_setL); (focus ((repeat first | (with_reducible exact upd_same) | (with_reducible assumption) | (with_reducible apply upd_new (by assumption)) | (with_reducible apply upd_other (by first | assumption | exact Ne.symm (by assumption))) | (with_reducible refine' Kp.get (by assumption) ?_ (by first | assumption | exact Ne.symm (by assumption))) | (with_reducible apply Same.get (by assumption))); done)); (focus (exact rfl)))
  | with_reducible refine q_ifNT ?_
  | with_reducible refine q_ifNF ?_
  | with_reducible refine q_andNT ?_
  | with_reducible refine q_andNF ?_
  | with_reducible refine q_orNT ?_
  | with_reducible refine q_orNF ?_
  | with_reducible refine q_bKNT ?_
  | with_reducible refine q_bKNF ?_
  | with_reducible refine q_tNGet ?_
  | with_reducible refine q_tNIn ?_
  | with_reducible refine q_sNPut ?_
  | with_reducible refine q_sFldAug ?_
  | with_reducible refine q_sDAug ?_
  | with_reducible refine q_sDDel ?_
  | with_reducible refine q_forX ?_
  | with_reducible refine q_tMake ?_
  | ((with_reducible apply q_dG1a); (focus ((repeat first | (with_reducible exact upd_same) | (with_reducible assumption) | (with_reducible apply upd_new (by assumption)) | (with_reducible apply upd_other (by first | assumption | exact Ne.symm (by assumption))) | (with_reducible refine' Kp.get (by assumption) ?_ (by first | assumption | exact Ne.symm (by assumption))) | (with_reducible apply Same.get (by assumption))); done)))))
theorem sc_shares : FnScope ["bonds", "seats", "bonded", "rows", "seated", "remainders", "by_remainder", "left", "guard", "bond", "_"] ["bonds", "seats"] (defScope s_shares) := ⟨rfl, rfl, rfl, by decide +kernel, rfl, by decide +kernel, by decide +kernel⟩
theorem sc_next_set : FnScope ["state", "token", "seats", "guard"] ["state", "token", "seats"] (defScope s_next_set) := ⟨rfl, rfl, rfl, by decide +kernel, rfl, by decide +kernel, by decide +kernel⟩
theorem sc_is_integer : FnScope ["value"] ["value"] (defScope s_is_integer) := ⟨rfl, rfl, rfl, by decide +kernel, rfl, by decide +kernel, by decide +kernel⟩
theorem sc_is_at_least : FnScope ["value", "least"] ["value", "least"] (defScope s_is_at_least) := ⟨rfl, rfl, rfl, by decide +kernel, rfl, by decide +kernel, by decide +kernel⟩
theorem sc_is_text : FnScope ["value", "char", "code"] ["value"] (defScope s_is_text) := ⟨rfl, rfl, rfl, by decide +kernel, rfl, by decide +kernel, by decide +kernel⟩
theorem sc_is_short_text : FnScope ["value", "most"] ["value", "most"] (defScope s_is_short_text) := ⟨rfl, rfl, rfl, by decide +kernel, rfl, by decide +kernel, by decide +kernel⟩
theorem sc_is_account : FnScope ["value"] ["value"] (defScope s_is_account) := ⟨rfl, rfl, rfl, by decide +kernel, rfl, by decide +kernel, by decide +kernel⟩
theorem sc_is_side : FnScope ["value"] ["value"] (defScope s_is_side) := ⟨rfl, rfl, rfl, by decide +kernel, rfl, by decide +kernel, by decide +kernel⟩
theorem sc_is_set : FnScope ["value", "found", "part"] ["value"] (defScope s_is_set) := ⟨rfl, rfl, rfl, by decide +kernel, rfl, by decide +kernel, by decide +kernel⟩
theorem sc_is_pair : FnScope ["part"] ["part"] (defScope s_is_pair) := ⟨rfl, rfl, rfl, by decide +kernel, rfl, by decide +kernel, by decide +kernel⟩
theorem sc_Config_init : FnScope ["self", "tokens", "balances", "guards", "depth", "window", "delay", "bundle", "row"] ["self", "tokens", "balances", "guards", "depth", "window", "delay", "bundle"] (defScope s_Config_init) := ⟨rfl, rfl, rfl, by decide +kernel, rfl, by decide +kernel, by decide +kernel⟩
theorem sc_Config_check_token : FnScope ["self", "token"] ["self", "token"] (defScope s_Config_check_token) := ⟨rfl, rfl, rfl, by decide +kernel, rfl, by decide +kernel, by decide +kernel⟩
theorem sc_Config_home : FnScope ["self", "token"] ["self", "token"] (defScope s_Config_home) := ⟨rfl, rfl, rfl, by decide +kernel, rfl, by decide +kernel, by decide +kernel⟩
theorem sc_Config_scale : FnScope ["self", "token"] ["self", "token"] (defScope s_Config_scale) := ⟨rfl, rfl, rfl, by decide +kernel, rfl, by decide +kernel, by decide +kernel⟩
theorem sc_Config_opening : FnScope ["self", "side", "row"] ["self", "side"] (defScope s_Config_opening) := ⟨rfl, rfl, rfl, by decide +kernel, rfl, by decide +kernel, by decide +kernel⟩
theorem sc_Config_guards : FnScope ["self"] ["self"] (defScope s_Config_guards) := ⟨rfl, rfl, rfl, by decide +kernel, rfl, by decide +kernel, by decide +kernel⟩
theorem sc_Config_depth : FnScope ["self"] ["self"] (defScope s_Config_depth) := ⟨rfl, rfl, rfl, by decide +kernel, rfl, by decide +kernel, by decide +kernel⟩
theorem sc_Config_window : FnScope ["self"] ["self"] (defScope s_Config_window) := ⟨rfl, rfl, rfl, by decide +kernel, rfl, by decide +kernel, by decide +kernel⟩
theorem sc_Config_delay : FnScope ["self"] ["self"] (defScope s_Config_delay) := ⟨rfl, rfl, rfl, by decide +kernel, rfl, by decide +kernel, by decide +kernel⟩
theorem sc_Config_bundle : FnScope ["self"] ["self"] (defScope s_Config_bundle) := ⟨rfl, rfl, rfl, by decide +kernel, rfl, by decide +kernel, by decide +kernel⟩
theorem sc_check_list : FnScope ["name", "value"] ["name", "value"] (defScope s_check_list) := ⟨rfl, rfl, rfl, by decide +kernel, rfl, by decide +kernel, by decide +kernel⟩
theorem sc_check_least : FnScope ["name", "value", "least"] ["name", "value", "least"] (defScope s_check_least) := ⟨rfl, rfl, rfl, by decide +kernel, rfl, by decide +kernel, by decide +kernel⟩
theorem sc_check_token_row : FnScope ["row", "name", "home", "scale", "limit", "large"] ["row"] (defScope s_check_token_row) := ⟨rfl, rfl, rfl, by decide +kernel, rfl, by decide +kernel, by decide +kernel⟩
theorem sc_check_balance_row : FnScope ["row", "tokens", "account", "token", "amount"] ["row", "tokens"] (defScope s_check_balance_row) := ⟨rfl, rfl, rfl, by decide +kernel, rfl, by decide +kernel, by decide +kernel⟩
theorem sc_check_amount : FnScope ["config", "token", "amount"] ["config", "token", "amount"] (defScope s_check_amount) := ⟨rfl, rfl, rfl, by decide +kernel, rfl, by decide +kernel, by decide +kernel⟩
theorem sc_do_bond : FnScope ["config", "notary", "state", "order", "_", "guard", "token", "amount"] ["config", "notary", "state", "order"] (defScope s_do_bond) := ⟨rfl, rfl, rfl, by decide +kernel, rfl, by decide +kernel, by decide +kernel⟩
theorem sc_word_of : FnScope ["order", "word"] ["order"] (defScope s_word_of) := ⟨rfl, rfl, rfl, by decide +kernel, rfl, by decide +kernel, by decide +kernel⟩
theorem sc_outcome : FnScope ["config", "notary", "state", "order", "action", "after", "events"] ["config", "notary", "state", "order"] (defScope s_outcome) := ⟨rfl, rfl, rfl, by decide +kernel, rfl, by decide +kernel, by decide +kernel⟩
theorem sc_Sheet_init : FnScope ["self", "config", "side", "account", "token", "amount"] ["self", "config", "side"] (defScope s_Sheet_init) := ⟨rfl, rfl, rfl, by decide +kernel, rfl, by decide +kernel, by decide +kernel⟩
theorem sc_Sheet_copy : FnScope ["self", "other"] ["self"] (defScope s_Sheet_copy) := ⟨rfl, rfl, rfl, by decide +kernel, rfl, by decide +kernel, by decide +kernel⟩
theorem sc_Sheet_balance : FnScope ["self", "account", "token"] ["self", "account", "token"] (defScope s_Sheet_balance) := ⟨rfl, rfl, rfl, by decide +kernel, rfl, by decide +kernel, by decide +kernel⟩
theorem sc_Sheet_vault : FnScope ["self", "token"] ["self", "token"] (defScope s_Sheet_vault) := ⟨rfl, rfl, rfl, by decide +kernel, rfl, by decide +kernel, by decide +kernel⟩
theorem sc_Sheet_bonded : FnScope ["self", "guard", "token"] ["self", "guard", "token"] (defScope s_Sheet_bonded) := ⟨rfl, rfl, rfl, by decide +kernel, rfl, by decide +kernel, by decide +kernel⟩
theorem sc_Sheet_bonders : FnScope ["self", "token", "rows", "guard"] ["self", "token"] (defScope s_Sheet_bonders) := ⟨rfl, rfl, rfl, by decide +kernel, rfl, by decide +kernel, by decide +kernel⟩
theorem sc_Sheet_mint : FnScope ["self", "account", "token", "units"] ["self", "account", "token", "units"] (defScope s_Sheet_mint) := ⟨rfl, rfl, rfl, by decide +kernel, rfl, by decide +kernel, by decide +kernel⟩
theorem sc_Sheet_bond : FnScope ["self", "guard", "token", "amount"] ["self", "guard", "token", "amount"] (defScope s_Sheet_bond) := ⟨rfl, rfl, rfl, by decide +kernel, rfl, by decide +kernel, by decide +kernel⟩
theorem sc_copied : FnScope ["table", "token"] ["table"] (defScope s_copied) := ⟨rfl, rfl, rfl, by decide +kernel, rfl, by decide +kernel, by decide +kernel⟩
theorem sc_held : FnScope ["table", "token", "name"] ["table", "token", "name"] (defScope s_held) := ⟨rfl, rfl, rfl, by decide +kernel, rfl, by decide +kernel, by decide +kernel⟩
theorem sc_put : FnScope ["table", "token", "name", "amount", "rows"] ["table", "token", "name", "amount"] (defScope s_put) := ⟨rfl, rfl, rfl, by decide +kernel, rfl, by decide +kernel, by decide +kernel⟩
theorem sc_draw : FnScope ["table", "token", "name", "amount"] ["table", "token", "name", "amount"] (defScope s_draw) := ⟨rfl, rfl, rfl, by decide +kernel, rfl, by decide +kernel, by decide +kernel⟩
theorem sc_State_init : FnScope ["self", "config", "side", "sheet"] ["self", "config", "side", "sheet"] (defScope s_State_init) := ⟨rfl, rfl, rfl, by decide +kernel, rfl, by decide +kernel, by decide +kernel⟩
theorem sc_State_copy : FnScope ["self", "other"] ["self"] (defScope s_State_copy) := ⟨rfl, rfl, rfl, by decide +kernel, rfl, by decide +kernel, by decide +kernel⟩
theorem sc_State_bonded : FnScope ["self", "guard", "token"] ["self", "guard", "token"] (defScope s_State_bonded) := ⟨rfl, rfl, rfl, by decide +kernel, rfl, by decide +kernel, by decide +kernel⟩
theorem sc_State_bonded_guards : FnScope ["self", "token"] ["self", "token"] (defScope s_State_bonded_guards) := ⟨rfl, rfl, rfl, by decide +kernel, rfl, by decide +kernel, by decide +kernel⟩
theorem sc_State_sheet : FnScope ["self"] ["self"] (defScope s_State_sheet) := ⟨rfl, rfl, rfl, by decide +kernel, rfl, by decide +kernel, by decide +kernel⟩
theorem sc_State_rise : FnScope ["self"] ["self"] (defScope s_State_rise) := ⟨rfl, rfl, rfl, by decide +kernel, rfl, by decide +kernel, by decide +kernel⟩
theorem sc_opening_state : FnScope ["config", "side"] ["config", "side"] (defScope s_opening_state) := ⟨rfl, rfl, rfl, by decide +kernel, rfl, by decide +kernel, by decide +kernel⟩
theorem sc_Notary_init : FnScope ["self"] ["self"] (defScope s_Notary_init) := ⟨rfl, rfl, rfl, by decide +kernel, rfl, by decide +kernel, by decide +kernel⟩
theorem sc_L_pot : FnScope ["script", "seed", "cell"] ["script"] (defScope s_L_pot) := ⟨rfl, rfl, rfl, by decide +kernel, rfl, by decide +kernel, by decide +kernel⟩
theorem sc_L_next : FnScope ["pot", "limit", "mixed", "cell", "found"] ["pot", "limit"] (defScope s_L_next) := ⟨rfl, rfl, rfl, by decide +kernel, rfl, by decide +kernel, by decide +kernel⟩
theorem sc_L_set : FnScope ["pot", "most", "names", "found", "k"] ["pot", "most"] (defScope s_L_set) := ⟨rfl, rfl, rfl, by decide +kernel, rfl, by decide +kernel, by decide +kernel⟩
theorem sc_L_config : FnScope ["pot", "tokens", "name", "balances", "account", "guards", "token"] ["pot"] (defScope s_L_config) := ⟨rfl, rfl, rfl, by decide +kernel, rfl, by decide +kernel, by decide +kernel⟩
theorem sc_L_made : FnScope ["parts"] ["parts"] (defScope s_L_made) := ⟨rfl, rfl, rfl, by decide +kernel, rfl, by decide +kernel, by decide +kernel⟩
theorem sc_L_refused : FnScope ["bonds", "seats", "e"] ["bonds", "seats"] (defScope s_L_refused) := ⟨rfl, rfl, rfl, by decide +kernel, rfl, by decide +kernel, by decide +kernel⟩
theorem sc_L_due : FnScope ["bonds", "seats", "whole", "table", "pair", "left", "mine", "better", "other", "name"] ["bonds", "seats"] (defScope s_L_due) := ⟨rfl, rfl, rfl, by decide +kernel, rfl, by decide +kernel, by decide +kernel⟩
theorem sc_law : FnScope ["script", "pot", "names", "bonds", "k", "seats", "whole", "found", "table", "one", "parts", "guard", "token", "config", "state", "mine", "pair", "other"] ["script"] (defScope s_law) := ⟨rfl, rfl, rfl, by decide +kernel, rfl, by decide +kernel, by decide +kernel⟩
set_option genInjectivity false in
set_option genSizeOf false in
structure Txt0 (K : PySem.W.Frag) (mg : Str → Option Value) where
  f_shares : Addr
  d_shares : FuncData
  F_shares : Fun K "shares" "shares" s_shares f_shares d_shares
  b_shares : Binds K d_shares ["bonds", "seats"] []
  g_shares : mg "shares" = some (.ref f_shares)
  f_next_set : Addr
  d_next_set : FuncData
  F_next_set : Fun K "next_set" "next_set" s_next_set f_next_set d_next_set
  b_next_set : Binds K d_next_set ["state", "token", "seats"] []
  g_next_set : mg "next_set" = some (.ref f_next_set)
  f_is_integer : Addr
  d_is_integer : FuncData
  F_is_integer : Fun K "is_integer" "is_integer" s_is_integer f_is_integer d_is_integer
  b_is_integer : Binds K d_is_integer ["value"] []
  g_is_integer : mg "is_integer" = some (.ref f_is_integer)
  f_is_at_least : Addr
  d_is_at_least : FuncData
  F_is_at_least : Fun K "is_at_least" "is_at_least" s_is_at_least f_is_at_least d_is_at_least
  b_is_at_least : Binds K d_is_at_least ["value", "least"] []
  g_is_at_least : mg "is_at_least" = some (.ref f_is_at_least)
  f_is_text : Addr
  d_is_text : FuncData
  F_is_text : Fun K "is_text" "is_text" s_is_text f_is_text d_is_text
  b_is_text : Binds K d_is_text ["value"] []
  g_is_text : mg "is_text" = some (.ref f_is_text)
  f_is_short_text : Addr
  d_is_short_text : FuncData
  F_is_short_text : Fun K "is_short_text" "is_short_text" s_is_short_text f_is_short_text d_is_short_text
  b_is_short_text : Binds K d_is_short_text ["value", "most"] []
  g_is_short_text : mg "is_short_text" = some (.ref f_is_short_text)
  f_is_account : Addr
  d_is_account : FuncData
  F_is_account : Fun K "is_account" "is_account" s_is_account f_is_account d_is_account
  b_is_account : Binds K d_is_account ["value"] []
  g_is_account : mg "is_account" = some (.ref f_is_account)
  f_is_side : Addr
  d_is_side : FuncData
  F_is_side : Fun K "is_side" "is_side" s_is_side f_is_side d_is_side
  b_is_side : Binds K d_is_side ["value"] []
  g_is_side : mg "is_side" = some (.ref f_is_side)
  f_is_set : Addr
  d_is_set : FuncData
  F_is_set : Fun K "is_set" "is_set" s_is_set f_is_set d_is_set
  b_is_set : Binds K d_is_set ["value"] []
  g_is_set : mg "is_set" = some (.ref f_is_set)
  f_is_pair : Addr
  d_is_pair : FuncData
  F_is_pair : Fun K "is_pair" "is_pair" s_is_pair f_is_pair d_is_pair
  b_is_pair : Binds K d_is_pair ["part"] []
  g_is_pair : mg "is_pair" = some (.ref f_is_pair)
  f_Config_init : Addr
  d_Config_init : FuncData
  F_Config_init : Fun K "__init__" "Config.__init__" s_Config_init f_Config_init d_Config_init
  f_Config_check_token : Addr
  d_Config_check_token : FuncData
  F_Config_check_token : Fun K "check_token" "Config.check_token" s_Config_check_token f_Config_check_token d_Config_check_token
  b_Config_check_token : Binds K d_Config_check_token ["self", "token"] []
  f_Config_home : Addr
  d_Config_home : FuncData
  F_Config_home : Fun K "home" "Config.home" s_Config_home f_Config_home d_Config_home
set_option genInjectivity false in
set_option genSizeOf false in
structure Txt1 (K : PySem.W.Frag) (mg : Str → Option Value) extends Txt0 K mg where
  b_Config_home : Binds K d_Config_home ["self", "token"] []
  f_Config_scale : Addr
  d_Config_scale : FuncData
  F_Config_scale : Fun K "scale" "Config.scale" s_Config_scale f_Config_scale d_Config_scale
  b_Config_scale : Binds K d_Config_scale ["self", "token"] []
  f_Config_opening : Addr
  d_Config_opening : FuncData
  F_Config_opening : Fun K "opening" "Config.opening" s_Config_opening f_Config_opening d_Config_opening
  b_Config_opening : Binds K d_Config_opening ["self", "side"] []
  f_Config_guards : Addr
  d_Config_guards : FuncData
  F_Config_guards : Fun K "guards" "Config.guards" s_Config_guards f_Config_guards d_Config_guards
  b_Config_guards : Binds K d_Config_guards ["self"] []
  f_Config_depth : Addr
  d_Config_depth : FuncData
  F_Config_depth : Fun K "depth" "Config.depth" s_Config_depth f_Config_depth d_Config_depth
  b_Config_depth : Binds K d_Config_depth ["self"] []
  f_Config_window : Addr
  d_Config_window : FuncData
  F_Config_window : Fun K "window" "Config.window" s_Config_window f_Config_window d_Config_window
  b_Config_window : Binds K d_Config_window ["self"] []
  f_Config_delay : Addr
  d_Config_delay : FuncData
  F_Config_delay : Fun K "delay" "Config.delay" s_Config_delay f_Config_delay d_Config_delay
  b_Config_delay : Binds K d_Config_delay ["self"] []
  f_Config_bundle : Addr
  d_Config_bundle : FuncData
  F_Config_bundle : Fun K "bundle" "Config.bundle" s_Config_bundle f_Config_bundle d_Config_bundle
  b_Config_bundle : Binds K d_Config_bundle ["self"] []
  f_check_list : Addr
  d_check_list : FuncData
  F_check_list : Fun K "check_list" "check_list" s_check_list f_check_list d_check_list
  b_check_list : Binds K d_check_list ["name", "value"] []
  g_check_list : mg "check_list" = some (.ref f_check_list)
  f_check_least : Addr
  d_check_least : FuncData
  F_check_least : Fun K "check_least" "check_least" s_check_least f_check_least d_check_least
  b_check_least : Binds K d_check_least ["name", "value", "least"] []
  g_check_least : mg "check_least" = some (.ref f_check_least)
  f_check_token_row : Addr
  d_check_token_row : FuncData
  F_check_token_row : Fun K "check_token_row" "check_token_row" s_check_token_row f_check_token_row d_check_token_row
  b_check_token_row : Binds K d_check_token_row ["row"] []
  g_check_token_row : mg "check_token_row" = some (.ref f_check_token_row)
  f_check_balance_row : Addr
  d_check_balance_row : FuncData
  F_check_balance_row : Fun K "check_balance_row" "check_balance_row" s_check_balance_row f_check_balance_row d_check_balance_row
  b_check_balance_row : Binds K d_check_balance_row ["row", "tokens"] []
  g_check_balance_row : mg "check_balance_row" = some (.ref f_check_balance_row)
  f_check_amount : Addr
  d_check_amount : FuncData
  F_check_amount : Fun K "check_amount" "check_amount" s_check_amount f_check_amount d_check_amount
  b_check_amount : Binds K d_check_amount ["config", "token", "amount"] []
  g_check_amount : mg "check_amount" = some (.ref f_check_amount)
  f_do_bond : Addr
  d_do_bond : FuncData
  F_do_bond : Fun K "do_bond" "do_bond" s_do_bond f_do_bond d_do_bond
  b_do_bond : Binds K d_do_bond ["config", "notary", "state", "order"] []
  g_do_bond : mg "do_bond" = some (.ref f_do_bond)
  f_word_of : Addr
set_option genInjectivity false in
set_option genSizeOf false in
structure Txt2 (K : PySem.W.Frag) (mg : Str → Option Value) extends Txt1 K mg where
  d_word_of : FuncData
  F_word_of : Fun K "word_of" "word_of" s_word_of f_word_of d_word_of
  b_word_of : Binds K d_word_of ["order"] []
  g_word_of : mg "word_of" = some (.ref f_word_of)
  f_outcome : Addr
  d_outcome : FuncData
  F_outcome : Fun K "outcome" "outcome" s_outcome f_outcome d_outcome
  b_outcome : Binds K d_outcome ["config", "notary", "state", "order"] []
  g_outcome : mg "outcome" = some (.ref f_outcome)
  f_Sheet_init : Addr
  d_Sheet_init : FuncData
  F_Sheet_init : Fun K "__init__" "Sheet.__init__" s_Sheet_init f_Sheet_init d_Sheet_init
  b_Sheet_init : Binds K d_Sheet_init ["self", "config", "side"] []
  f_Sheet_copy : Addr
  d_Sheet_copy : FuncData
  F_Sheet_copy : Fun K "copy" "Sheet.copy" s_Sheet_copy f_Sheet_copy d_Sheet_copy
  b_Sheet_copy : Binds K d_Sheet_copy ["self"] []
  f_Sheet_balance : Addr
  d_Sheet_balance : FuncData
  F_Sheet_balance : Fun K "balance" "Sheet.balance" s_Sheet_balance f_Sheet_balance d_Sheet_balance
  b_Sheet_balance : Binds K d_Sheet_balance ["self", "account", "token"] []
  f_Sheet_vault : Addr
  d_Sheet_vault : FuncData
  F_Sheet_vault : Fun K "vault" "Sheet.vault" s_Sheet_vault f_Sheet_vault d_Sheet_vault
  b_Sheet_vault : Binds K d_Sheet_vault ["self", "token"] []
  f_Sheet_bonded : Addr
  d_Sheet_bonded : FuncData
  F_Sheet_bonded : Fun K "bonded" "Sheet.bonded" s_Sheet_bonded f_Sheet_bonded d_Sheet_bonded
  b_Sheet_bonded : Binds K d_Sheet_bonded ["self", "guard", "token"] []
  f_Sheet_bonders : Addr
  d_Sheet_bonders : FuncData
  F_Sheet_bonders : Fun K "bonders" "Sheet.bonders" s_Sheet_bonders f_Sheet_bonders d_Sheet_bonders
  b_Sheet_bonders : Binds K d_Sheet_bonders ["self", "token"] []
  f_Sheet_mint : Addr
  d_Sheet_mint : FuncData
  F_Sheet_mint : Fun K "mint" "Sheet.mint" s_Sheet_mint f_Sheet_mint d_Sheet_mint
  b_Sheet_mint : Binds K d_Sheet_mint ["self", "account", "token", "units"] []
  f_Sheet_bond : Addr
  d_Sheet_bond : FuncData
  F_Sheet_bond : Fun K "bond" "Sheet.bond" s_Sheet_bond f_Sheet_bond d_Sheet_bond
  b_Sheet_bond : Binds K d_Sheet_bond ["self", "guard", "token", "amount"] []
  f_copied : Addr
  d_copied : FuncData
  F_copied : Fun K "copied" "copied" s_copied f_copied d_copied
  b_copied : Binds K d_copied ["table"] []
  g_copied : mg "copied" = some (.ref f_copied)
  f_held : Addr
  d_held : FuncData
  F_held : Fun K "held" "held" s_held f_held d_held
  b_held : Binds K d_held ["table", "token", "name"] []
  g_held : mg "held" = some (.ref f_held)
  f_put : Addr
  d_put : FuncData
  F_put : Fun K "put" "put" s_put f_put d_put
  b_put : Binds K d_put ["table", "token", "name", "amount"] []
  g_put : mg "put" = some (.ref f_put)
  f_draw : Addr
  d_draw : FuncData
  F_draw : Fun K "draw" "draw" s_draw f_draw d_draw
  b_draw : Binds K d_draw ["table", "token", "name", "amount"] []
set_option genInjectivity false in
set_option genSizeOf false in
structure Txt3 (K : PySem.W.Frag) (mg : Str → Option Value) extends Txt2 K mg where
  g_draw : mg "draw" = some (.ref f_draw)
  f_State_init : Addr
  d_State_init : FuncData
  F_State_init : Fun K "__init__" "State.__init__" s_State_init f_State_init d_State_init
  b_State_init : Binds K d_State_init ["self", "config", "side", "sheet"] []
  f_State_copy : Addr
  d_State_copy : FuncData
  F_State_copy : Fun K "copy" "State.copy" s_State_copy f_State_copy d_State_copy
  b_State_copy : Binds K d_State_copy ["self"] []
  f_State_bonded : Addr
  d_State_bonded : FuncData
  F_State_bonded : Fun K "bonded" "State.bonded" s_State_bonded f_State_bonded d_State_bonded
  b_State_bonded : Binds K d_State_bonded ["self", "guard", "token"] []
  f_State_bonded_guards : Addr
  d_State_bonded_guards : FuncData
  F_State_bonded_guards : Fun K "bonded_guards" "State.bonded_guards" s_State_bonded_guards f_State_bonded_guards d_State_bonded_guards
  b_State_bonded_guards : Binds K d_State_bonded_guards ["self", "token"] []
  f_State_sheet : Addr
  d_State_sheet : FuncData
  F_State_sheet : Fun K "sheet" "State.sheet" s_State_sheet f_State_sheet d_State_sheet
  b_State_sheet : Binds K d_State_sheet ["self"] []
  f_State_rise : Addr
  d_State_rise : FuncData
  F_State_rise : Fun K "rise" "State.rise" s_State_rise f_State_rise d_State_rise
  b_State_rise : Binds K d_State_rise ["self"] []
  f_opening_state : Addr
  d_opening_state : FuncData
  F_opening_state : Fun K "opening_state" "opening_state" s_opening_state f_opening_state d_opening_state
  b_opening_state : Binds K d_opening_state ["config", "side"] []
  g_opening_state : mg "opening_state" = some (.ref f_opening_state)
  f_Notary_init : Addr
  d_Notary_init : FuncData
  F_Notary_init : Fun K "__init__" "Notary.__init__" s_Notary_init f_Notary_init d_Notary_init
  b_Notary_init : Binds K d_Notary_init ["self"] []
  f_L_pot : Addr
  d_L_pot : FuncData
  F_L_pot : Fun K "_law_pot" "_law_pot" s_L_pot f_L_pot d_L_pot
  b_L_pot : Binds K d_L_pot ["script"] []
  g_L_pot : mg "_law_pot" = some (.ref f_L_pot)
  f_L_next : Addr
  d_L_next : FuncData
  F_L_next : Fun K "_law_next" "_law_next" s_L_next f_L_next d_L_next
  b_L_next : Binds K d_L_next ["pot", "limit"] []
  g_L_next : mg "_law_next" = some (.ref f_L_next)
  f_L_set : Addr
  d_L_set : FuncData
  F_L_set : Fun K "_law_set" "_law_set" s_L_set f_L_set d_L_set
  b_L_set : Binds K d_L_set ["pot", "most"] []
  g_L_set : mg "_law_set" = some (.ref f_L_set)
  f_L_config : Addr
  d_L_config : FuncData
  F_L_config : Fun K "_law_config" "_law_config" s_L_config f_L_config d_L_config
  b_L_config : Binds K d_L_config ["pot"] []
  g_L_config : mg "_law_config" = some (.ref f_L_config)
  f_L_made : Addr
  d_L_made : FuncData
  F_L_made : Fun K "_law_made" "_law_made" s_L_made f_L_made d_L_made
  b_L_made : Binds K d_L_made ["parts"] []
  g_L_made : mg "_law_made" = some (.ref f_L_made)
  f_L_refused : Addr
set_option genInjectivity false in
set_option genSizeOf false in
structure Txt4 (K : PySem.W.Frag) (mg : Str → Option Value) extends Txt3 K mg where
  d_L_refused : FuncData
  F_L_refused : Fun K "_law_refused" "_law_refused" s_L_refused f_L_refused d_L_refused
  b_L_refused : Binds K d_L_refused ["bonds", "seats"] []
  g_L_refused : mg "_law_refused" = some (.ref f_L_refused)
  f_L_due : Addr
  d_L_due : FuncData
  F_L_due : Fun K "_law_due" "_law_due" s_L_due f_L_due d_L_due
  b_L_due : Binds K d_L_due ["bonds", "seats"] []
  g_L_due : mg "_law_due" = some (.ref f_L_due)
  f_law : Addr
  d_law : FuncData
  F_law : Fun K "law" "law" s_law f_law d_law
  b_law : Binds K d_law ["script"] []
  g_law : mg "law" = some (.ref f_law)
  kb7_Config_init : KBn K d_Config_init ["self", "tokens", "balances", "guards", "depth", "window", "delay", "bundle"] 1 ["tokens", "balances", "guards", "depth", "window", "delay", "bundle"] (fun us ws => us ++ ws) (fun vs zs => vs ++ zs)
  C_BridgeError : Addr
  g_BridgeError : mg "BridgeError" = some (.ref C_BridgeError)
  xe_BridgeError : PySem.W.excIn K C_BridgeError [.type "ValueError", .type "Exception", .type "BaseException", .type "object"] "ValueError.__new__" = true
  ke_BridgeError : PySem.W.keepIn K (.ref C_BridgeError) = true
  be_BridgeError : PySem.W.subIn K (.ref C_BridgeError) (.type "BaseException") = some true
  te_BridgeError : PySem.W.typeIn K (.ref C_BridgeError) = some (.type "type")
  ie_BridgeError : PySem.W.isClsIn K C_BridgeError = true
  se_BridgeError : PySem.W.subIn K (.ref C_BridgeError) (.ref C_BridgeError) = some true
  hd_BridgeError : PySem.W.hasDictIn K C_BridgeError = true
  C_InvalidArgument : Addr
  g_InvalidArgument : mg "InvalidArgument" = some (.ref C_InvalidArgument)
  xe_InvalidArgument : PySem.W.excIn K C_InvalidArgument [.type "ValueError", .type "Exception", .type "BaseException", .type "object"] "ValueError.__new__" = true
  ke_InvalidArgument : PySem.W.keepIn K (.ref C_InvalidArgument) = true
  be_InvalidArgument : PySem.W.subIn K (.ref C_InvalidArgument) (.type "BaseException") = some true
  te_InvalidArgument : PySem.W.typeIn K (.ref C_InvalidArgument) = some (.type "type")
  ie_InvalidArgument : PySem.W.isClsIn K C_InvalidArgument = true
  se_InvalidArgument : PySem.W.subIn K (.ref C_InvalidArgument) (.ref C_InvalidArgument) = some true
  hg_InvalidArgument : PySem.W.findIn K (.ref C_InvalidArgument) "__getattribute__" = some (some (.builtin "BaseException.__getattribute__"))
  hk_InvalidArgument : PySem.W.findIn K (.ref C_InvalidArgument) "__getattr__" = some none
  hd_InvalidArgument : PySem.W.hasDictIn K C_InvalidArgument = true
  ha_InvalidArgument : PySem.W.findIn K (.ref C_InvalidArgument) "__class__" = some (some (.builtin "object.__class__"))
  hm_InvalidArgument : PySem.W.mroIn K C_InvalidArgument (.type "object") = some true
  hn_InvalidArgument : PySem.W.specialIn K (.builtin "object.__class__") "__get__" = some (some (.builtin "getset_descriptor.__get__"))
  ht_InvalidArgument : PySem.W.takesIn K (.builtin "object.__class__") = some true
  ue_InvalidArgument : PySem.W.subIn K (.ref C_InvalidArgument) (.ref C_BridgeError) = some true
  C_Blocks : Addr
  cl_Blocks : Cls K C_Blocks
  g_Blocks : mg "Blocks" = some (.ref C_Blocks)
  C_Config : Addr
  cl_Config : Cls K C_Config
  g_Config : mg "Config" = some (.ref C_Config)
  mk_Config : Mk K C_Config f_Config_init
  m_Config_check_token : Meth K C_Config "check_token" f_Config_check_token
  m_Config_home : Meth K C_Config "home" f_Config_home
  m_Config_scale : Meth K C_Config "scale" f_Config_scale
  m_Config_opening : Meth K C_Config "opening" f_Config_opening
  m_Config_guards : Meth K C_Config "guards" f_Config_guards
  m_Config_depth : Meth K C_Config "depth" f_Config_depth
  m_Config_window : Meth K C_Config "window" f_Config_window
  m_Config_delay : Meth K C_Config "delay" f_Config_delay
  m_Config_bundle : Meth K C_Config "bundle" f_Config_bundle
  n_Config_tokens : NoAttr K C_Config "_tokens"
  n_Config_balances : NoAttr K C_Config "_balances"
  n_Config_guards : NoAttr K C_Config "_guards"
  n_Config_depth : NoAttr K C_Config "_depth"
set_option genInjectivity false in
set_option genSizeOf false in
structure Txt5 (K : PySem.W.Frag) (mg : Str → Option Value) extends Txt4 K mg where
  n_Config_window : NoAttr K C_Config "_window"
  n_Config_delay : NoAttr K C_Config "_delay"
  n_Config_bundle : NoAttr K C_Config "_bundle"
  C_Sheet : Addr
  cl_Sheet : Cls K C_Sheet
  g_Sheet : mg "Sheet" = some (.ref C_Sheet)
  mk_Sheet : Mk K C_Sheet f_Sheet_init
  m_Sheet_copy : Meth K C_Sheet "copy" f_Sheet_copy
  m_Sheet_balance : Meth K C_Sheet "balance" f_Sheet_balance
  m_Sheet_vault : Meth K C_Sheet "vault" f_Sheet_vault
  m_Sheet_bonded : Meth K C_Sheet "bonded" f_Sheet_bonded
  m_Sheet_bonders : Meth K C_Sheet "bonders" f_Sheet_bonders
  m_Sheet_mint : Meth K C_Sheet "mint" f_Sheet_mint
  m_Sheet_bond : Meth K C_Sheet "bond" f_Sheet_bond
  n_Sheet_config : NoAttr K C_Sheet "_config"
  n_Sheet_side : NoAttr K C_Sheet "_side"
  n_Sheet_balances : NoAttr K C_Sheet "_balances"
  n_Sheet_bonds : NoAttr K C_Sheet "_bonds"
  n_Sheet_vaults : NoAttr K C_Sheet "_vaults"
  C_State : Addr
  cl_State : Cls K C_State
  g_State : mg "State" = some (.ref C_State)
  mk_State : Mk K C_State f_State_init
  m_State_copy : Meth K C_State "copy" f_State_copy
  m_State_bonded : Meth K C_State "bonded" f_State_bonded
  m_State_bonded_guards : Meth K C_State "bonded_guards" f_State_bonded_guards
  m_State_sheet : Meth K C_State "sheet" f_State_sheet
  m_State_rise : Meth K C_State "rise" f_State_rise
  n_State_config : NoAttr K C_State "_config"
  n_State_side : NoAttr K C_State "_side"
  n_State_sheet : NoAttr K C_State "_sheet"
  n_State_height : NoAttr K C_State "_height"
  n_State_sets : NoAttr K C_State "_sets"
  n_State_stops : NoAttr K C_State "_stops"
  n_State_stopped : NoAttr K C_State "_stopped"
  n_State_transfers : NoAttr K C_State "_transfers"
  n_State_returned : NoAttr K C_State "_returned"
  n_State_taken : NoAttr K C_State "_taken"
  n_State_waiting : NoAttr K C_State "_waiting"
  n_State_deliveries : NoAttr K C_State "_deliveries"
  C_Chain : Addr
  cl_Chain : Cls K C_Chain
  g_Chain : mg "Chain" = some (.ref C_Chain)
  C_Notary : Addr
  cl_Notary : Cls K C_Notary
  g_Notary : mg "Notary" = some (.ref C_Notary)
  mk_Notary : Mk K C_Notary f_Notary_init
  n_Notary_table : NoAttr K C_Notary "_table"
  n_Notary_numbers : NoAttr K C_Notary "_numbers"
  t_ACCOUNT_LENGTH : Tok
  c_ACCOUNT_LENGTH : mg "ACCOUNT_LENGTH" = some (.int 20 t_ACCOUNT_LENGTH)
  t_BARRED_CODE : Tok
  c_BARRED_CODE : mg "BARRED_CODE" = some (.int 37 t_BARRED_CODE)
  t_FIRST_CODE : Tok
  c_FIRST_CODE : mg "FIRST_CODE" = some (.int 32 t_FIRST_CODE)
  t_LAST_CODE : Tok
  c_LAST_CODE : mg "LAST_CODE" = some (.int 126 t_LAST_CODE)
  t_MOST_IN_BUNDLE : Tok
  c_MOST_IN_BUNDLE : mg "MOST_IN_BUNDLE" = some (.int 8 t_MOST_IN_BUNDLE)
  a_ORDERS : Addr
set_option genInjectivity false in
set_option genSizeOf false in
structure Txt (K : PySem.W.Frag) (mg : Str → Option Value) extends Txt5 K mg where
  c_ORDERS : mg "ORDERS" = some (.ref a_ORDERS)
  a_PARTS : Addr
  c_PARTS : mg "PARTS" = some (.ref a_PARTS)
  a_SIDES : Addr
  c_SIDES : mg "SIDES" = some (.ref a_SIDES)
  k_SIDES : SqTK K a_SIDES [.str "west", .str "east"]
  t_TOKEN_LENGTH : Tok
  c_TOKEN_LENGTH : mg "TOKEN_LENGTH" = some (.int 12 t_TOKEN_LENGTH)
  z_abs : mg "abs" = none
  z_any : mg "any" = none
  z_bool : mg "bool" = none
  z_dict : mg "dict" = none
  z_int : mg "int" = none
  z_isinstance : mg "isinstance" = none
  z_len : mg "len" = none
  z_list : mg "list" = none
  z_ord : mg "ord" = none
  z_range : mg "range" = none
  z_sorted : mg "sorted" = none
  z_str : mg "str" = none
  z_sum : mg "sum" = none
  z_tuple : mg "tuple" = none
theorem Txt.ec_InvalidArgument {K : PySem.W.Frag} {mg : Str → Option Value} (T : Txt K mg) : ExcC K T.C_InvalidArgument := ⟨T.hg_InvalidArgument, T.hk_InvalidArgument, T.be_InvalidArgument, T.hd_InvalidArgument, T.ha_InvalidArgument, T.hn_InvalidArgument, T.ht_InvalidArgument, T.hm_InvalidArgument⟩
theorem Txt.hi_InvalidArgument {K : PySem.W.Frag} {mg : Str → Option Value} (T : Txt K mg) : PySem.W.kitOne K (.ref T.C_InvalidArgument) (.ref T.C_InvalidArgument) = some true := by
  unfold PySem.W.kitOne
  rw [if_pos (beq_self_eq_true _)]
theorem Txt.ex_InvalidArgument {K : PySem.W.Frag} {mg : Str → Option Value} (T : Txt K mg) : PySem.W.exmOne K (.ref T.C_InvalidArgument) (.ref T.C_BridgeError) = some true := PySem.W.exm_ref T.be_BridgeError T.hd_BridgeError T.te_BridgeError T.ue_InvalidArgument
/-! the law's own numbers -/
def PotAt (H : Hp) (p l : Addr) : Prop := ∃ (ns : List Int) (i c s : Int), H p = some (.lst [.ref l, .int i, .int c, .int s]) ∧ H l = some (.lst (ns.map V.int)) ∧ 0 ≤ i ∧ 0 ≤ c ∧ 0 ≤ s ∧ s < 2147483647 ∧ ns.length ≤ 1000 ∧ p ≠ l
theorem PotAt.at {H : Hp} {p l : Addr} (h : PotAt H p l) : ∃ o, H p = some o := by
  obtain ⟨ns, i, c, s, h1, _⟩ := h; exact ⟨_, h1⟩
theorem PotAt.atl {H : Hp} {p l : Addr} (h : PotAt H p l) : ∃ o, H l = some o := by
  obtain ⟨ns, i, c, s, _, h1, _⟩ := h; exact ⟨_, h1⟩
theorem PotAt.same {H H' : Hp} {p l : Addr} (h : PotAt H p l) (e : Same H H') : PotAt H' p l := by
  obtain ⟨ns, i, c, s, h1, h2, r⟩ := h; exact ⟨ns, i, c, s, e _ _ h1, e _ _ h2, r⟩
theorem PotAt.upd {H : Hp} {p l a : Addr} {o : HO} (h : PotAt H p l) (n1 : a ≠ p) (n2 : a ≠ l) : PotAt (L2.upd H a o) p l := by
  obtain ⟨ns, i, c, s, h1, h2, r⟩ := h; exact ⟨ns, i, c, s, upd_other n1.symm h1, upd_other n2.symm h2, r⟩
theorem PotAt.new {H : Hp} {p l a : Addr} {o : HO} (h : PotAt H p l) (n : H a = none) : PotAt (L2.upd H a o) p l := by
  obtain ⟨ns, i, c, s, h1, h2, r⟩ := h; exact ⟨ns, i, c, s, upd_new n h1, upd_new n h2, r⟩
theorem PotAt.nep {H : Hp} {p l a : Addr} (h : PotAt H p l) (n : H a = none) : a ≠ p := by
  obtain ⟨o, h1⟩ := h.at; exact (ne_of_none h1 n).symm
theorem PotAt.nel {H : Hp} {p l a : Addr} (h : PotAt H p l) (n : H a = none) : a ≠ l := by
  obtain ⟨o, h1⟩ := h.atl; exact (ne_of_none h1 n).symm
def sp_pot (K : PySem.W.Frag) : Sp := fun vs H Q _ => ∃ (a : Addr) (ns : List Int), vs = [.ref a] ∧ SqL K H a (ns.map V.int) ∧ ns.length ≤ 63 ∧ ∀ (p l : Addr) (H' : Hp), H p = none → H l = none → PotAt H' p l → Same H H' → Q (.ref p) H'
def sp_next : Sp := fun vs H Q _ => ∃ (p l : Addr) (n : Int), vs = [.ref p, .int n] ∧ PotAt H p l ∧ 0 < n ∧ n < 1000000000 ∧ ∀ (r : Int) (H' : Hp), 0 ≤ r → r < n → PotAt H' p l → Kp p H H' → Q (.int r) H'
section
variable {P : Program} {w : World} {K : PySem.W.Frag} {mg : Str → Option Value} {base : Heap}
theorem map_at {ns : List Int} {i : Nat} {x : V} (h : (ns.map V.int)[i]? = some x) : ∃ z, x = .int z := by
  rw [List.getElem?_map] at h
  cases e : ns[i]? with
  | none => rw [e] at h; cases h
  | some z => rw [e] at h; exact ⟨z, (Option.some.inj h).symm⟩
theorem ok_L_pot (T : Txt K mg) : FnOk P w K mg base CX0 1 T.f_L_pot T.d_L_pot ["script"] (sp_pot K) := by
  refine T.F_L_pot.ok sc_L_pot (fun vs H Q E h => ?_) (fun cdv A outer s H vs Q E hr h => ?_)
  · obtain ⟨a, ns, rfl, _⟩ := h; rfl
  · obtain ⟨a, ns, rfl, hS, hlen, k⟩ := h
    refine ⟨_, (pss_cons (ps_set (i := 1) sc_L_pot.nd rfl (Or.inl rfl) pe_int)
      (pss_cons (ps_for PassesOwn.never rfl (pi_list (pv 0)) (pg_name (i := 2) sc_L_pot.nd rfl (Or.inl rfl))
        (pss_one (ps_set (i := 1) sc_L_pot.nd rfl (Or.inl rfl) (pe_op op_mod (pe_callTy cq_int1 (by rfl) T.z_int boot_int (pa_cons (pe_op op_add (pe_op op_mul (pv 1) pe_int) (pv 2)) pa_nil)) pe_int))))
      (pss_one (ps_ret (pe_lst (pa_cons (pe_callTy cq_listOf (by rfl) T.z_list boot_list (pa_cons (pv 0) pa_nil)) (pa_cons pe_int (pa_cons pe_int (pa_cons (pv 1) pa_nil))))))))), ?_⟩
    (dsimp only [cxOf, Cx.nox, Cx.wish, L2.start, List.map, List.length, List.replicate, List.cons_append, List.nil_append, List.append_eq, Nat.reduceSub, Nat.reduceAdd])
    walk_at "my_rd"
    refine q_forL hS (fun i σ H2 => ∃ (z : Int) (v : Option V), σ = [some (.ref a), some (.int z), v] ∧ H2 = H ∧ 0 ≤ z ∧ z < 2147483647) ⟨1, none, rfl, rfl, by omega, by omega⟩ (fun i σ H2 _ ⟨_, _, _, e, _⟩ => e ▸ hS) ?_ ?_
    · rintro i x σ H2 hx ⟨z, v, rfl, rfl, h0, h1⟩
      obtain ⟨y, rfl⟩ := map_at hx
      walk_at "my_rd"
      exact ⟨_, _, rfl, rfl, Int.emod_nonneg _ (by decide), Int.emod_lt_of_pos _ (by decide)⟩
    · rintro σ H2 ⟨z, v, rfl, rfl, h0, h1⟩
      walk_at "my_rd"
      refine q_listL hS fun l nl => ?_
      walk_at "my_rd"
      refine q_lstK (Nat.le_of_ble_eq_true rfl) fun p np => ?_
      walk_at "my_rd"
      refine k p l _ (upd_none_back np) nl ⟨ns, 0, 0, z, upd_same, upd_new np upd_same, by omega, by omega, h0, h1, by omega, ?_⟩ (Same.new (Same.new (Same.refl _) nl) (upd_none_back np))
      exact upd_none_ne np
theorem ok_L_next (T : Txt K mg) : FnOk P w K mg base CX0 1 T.f_L_next T.d_L_next ["pot", "limit"] sp_next := by
  refine T.F_L_next.ok sc_L_next (fun vs H Q E h => ?_) (fun cdv A outer s H vs Q E hr h => ?_)
  · obtain ⟨p, l, n, rfl, _⟩ := h; rfl
  · obtain ⟨p, l, n, rfl, ⟨ns, i, c, z, hp, hl, hi, hc, hz0, hz1, hns, hpl⟩, hn, hn2, k⟩ := h
    refine ⟨_, (Evl.pss_cut (ps_if (PW.pt (pw_and (pt_cmpR op_eq (pe_ix ix_list (pv 0) pe_int (fun _ _ => rfl)) pe_int (nomark _)) (pw_and1 (pt_cmpR op_lt (pe_ix ix_list (pv 0) pe_int (fun _ _ => rfl)) (pe_callB cq_len (by rfl) T.z_len boot_len (pa_cons (pe_ix ix_list (pv 0) pe_int (fun _ _ => rfl)) pa_nil)) (nomark _))))) (pss_cons (ps_set (i := 3) sc_L_next.nd rfl (Or.inl rfl) (pe_callB cq_abs (by rfl) T.z_abs boot_abs (pa_cons (pe_callTy cq_int1 (by rfl) T.z_int boot_int (pa_cons (pe_ix ix_list (pe_ix ix_list (pv 0) pe_int (fun _ _ => rfl)) (pe_ix ix_list (pv 0) pe_int (fun _ _ => rfl)) (fun _ _ => rfl)) pa_nil)) pa_nil)))
      (pss_cons (ps_asg (pe_op op_add (pe_ix ix_list (pv 0) pe_int (fun _ _ => rfl)) pe_int) (pg_sub (pv 0) pe_int set_list))
      (pss_cons (ps_if (pt_cmpR op_lt (pv 3) (pe_op op_pow pe_int pe_int) (nomark _)) (pss_one (ps_ret (pe_op op_mod (pe_callTy cq_int1 (by rfl) T.z_int boot_int (pa_cons (pv 3) pa_nil)) (pv 1)))) pss_nil)
      (pss_one (ps_asg (pv 3) (pg_sub (pv 0) pe_int set_list)))))) pss_nil)
      (pss_cons (ps_if (pt_cmpR op_gt (pe_ix ix_list (pv 0) pe_int (fun _ _ => rfl)) pe_int (nomark _)) (pss_cons (ps_set (i := 4) sc_L_next.nd rfl (Or.inl rfl) (pe_op op_mod (pe_callTy cq_int1 (by rfl) T.z_int boot_int (pa_cons (pe_ix ix_list (pv 0) pe_int (fun _ _ => rfl)) pa_nil)) (pv 1)))
      (pss_cons (ps_asg (pe_op op_fdiv (pe_ix ix_list (pv 0) pe_int (fun _ _ => rfl)) (pv 1)) (pg_sub (pv 0) pe_int set_list))
      (pss_one (ps_ret (pv 4))))) pss_nil)
      (pss_cons (ps_asg (pe_op op_mod (pe_callTy cq_int1 (by rfl) T.z_int boot_int (pa_cons (pe_op op_add (pe_op op_mul (pe_ix ix_list (pv 0) pe_int (fun _ _ => rfl)) pe_int) pe_int) pa_nil)) pe_int) (pg_sub (pv 0) pe_int set_list))
      (pss_cons (ps_set (i := 2) sc_L_next.nd rfl (Or.inl rfl) (pe_op op_mod (pe_callTy cq_int1 (by rfl) T.z_int boot_int (pa_cons (pe_op op_add (pe_op op_mul (pe_ix ix_list (pv 0) pe_int (fun _ _ => rfl)) pe_int) (pe_op op_fdiv (pe_ix ix_list (pv 0) pe_int (fun _ _ => rfl)) pe_int)) pa_nil)) pe_int))
      (pss_one (ps_ret (pe_op op_mod (pe_callTy cq_int1 (by rfl) T.z_int boot_int (pa_cons (pv 2) pa_nil)) (pv 1)))))))), ?_⟩
    (dsimp only [cxOf, Cx.nox, Cx.wish, L2.start, List.map, List.length, List.replicate, List.cons_append, List.nil_append, List.append_eq, Nat.reduceSub, Nat.reduceAdd])
    refine q_cut (Mid := fun σ' H' => ∃ (cell : Option V) (i c : Int), σ' = [some (.ref p), some (.int n), none, cell, none] ∧ H' p = some (.lst [.ref l, .int i, .int c, .int z]) ∧ H' l = some (.lst (ns.map V.int)) ∧ 0 ≤ i ∧ 0 ≤ c ∧ Kp p H H') ?_ ?_
    · walk_at "my_rd"
      refine q_and2 (fun h1 => ?_) (fun _ => ?_)
      · walk_at "my_rd"
        refine q_if2 (fun h2 => ?_) (fun _ => ?_)
        · have h2 := dec_t h2
          rw [List.length_map] at h2
          have hi2 : i.toNat < ns.length := by omega
          have ha : atI (ns.map V.int) i = some (V.int ns[i.toNat]) := at_int (n := i.toNat) (by omega) (by rw [List.getElem?_map, List.getElem?_eq_getElem hi2]; rfl)
          walk_at "my_rd"
          refine q_ixLt hl ha ?_
          walk_at "my_rd"
          refine q_if2 (fun h3 => ?_) (fun h3 => ?_)
          · walk_at "my_rd"
            refine k _ _ (Int.emod_nonneg _ (by omega)) (Int.emod_lt_of_pos _ hn) ⟨ns, i + 1, c, z, upd_same, upd_other hpl.symm hl, by omega, hc, hz0, hz1, hns, hpl⟩ (Kp.upd Kp.refl)
          · walk_at "my_rd"
            refine ⟨_, i + 1, _, rfl, upd_same, upd_other hpl.symm (upd_other hpl.symm hl), by omega, ?_, Kp.upd (Kp.upd Kp.refl)⟩
            split <;> omega
        · walk_at "my_rd"
          exact ⟨none, i, c, rfl, hp, hl, hi, hc, Kp.refl⟩
      · walk_at "my_rd"
        exact ⟨none, i, c, rfl, hp, hl, hi, hc, Kp.refl⟩
    · clear hp hl hi hc i c
      rintro σ' H2 ⟨cell, i, c, rfl, hp, hl, hi, hc, kp⟩
      walk_at "my_rd"
      refine q_if2 (fun h1 => ?_) (fun h1 => ?_)
      · have h1 := dec_t h1
        walk_at "my_rd"
        refine k _ _ (Int.emod_nonneg _ (by omega)) (Int.emod_lt_of_pos _ hn) ⟨ns, i, c / n, z, upd_same, upd_other hpl.symm hl, hi, Int.ediv_nonneg hc (by omega), hz0, hz1, hns, hpl⟩ (Kp.upd kp)
      · walk_at "my_rd"
        refine k _ _ (Int.emod_nonneg _ (by omega)) (Int.emod_lt_of_pos _ hn) ⟨ns, i, c, _, upd_same, upd_other hpl.symm hl, hi, hc, Int.emod_nonneg _ (by decide), Int.emod_lt_of_pos _ (by decide), hns, hpl⟩ (Kp.upd kp)
end

/-! sets of guards as data: names with weights -/
abbrev Gs := List (Str × Int)
def wsum (gs : Gs) : Int := (gs.map (·.2)).sum
structure PairsAt (H : Hp) (xs : List V) (gs : Gs) : Prop where
  len : xs.length = gs.length
  at_ : ∀ (i : Nat) (g : Str × Int), gs[i]? = some g → ∃ a, xs[i]? = some (.ref a) ∧ H a = some (.tup [.str g.1, .int g.2])
theorem PairsAt.nil {H : Hp} : PairsAt H [] [] := ⟨rfl, fun i g h => by simp at h⟩
theorem PairsAt.mono {H H' : Hp} {xs : List V} {gs : Gs} (h : PairsAt H xs gs) (e : ∀ b ys, H b = some (.tup ys) → H' b = some (.tup ys)) : PairsAt H' xs gs :=
  ⟨h.len, fun i g hg => by obtain ⟨a, h1, h2⟩ := h.at_ i g hg; exact ⟨a, h1, e _ _ h2⟩⟩
theorem PairsAt.same {H H' : Hp} {xs : List V} {gs : Gs} (h : PairsAt H xs gs) (e : Same H H') : PairsAt H' xs gs := h.mono fun b ys q => e b _ q
theorem PairsAt.item {H : Hp} {xs : List V} {gs : Gs} (h : PairsAt H xs gs) {i : Nat} {x : V} (hx : xs[i]? = some x) : ∃ g a, gs[i]? = some g ∧ x = .ref a ∧ H a = some (.tup [.str g.1, .int g.2]) := by
  have hi : i < gs.length := by rw [← h.len]; exact (List.getElem?_eq_some_iff.mp hx).1
  obtain ⟨a, h1, h2⟩ := h.at_ i gs[i] (List.getElem?_eq_getElem hi)
  exact ⟨gs[i], a, List.getElem?_eq_getElem hi, Option.some.inj (hx.symm.trans h1), h2⟩
theorem PairsAt.snoc {H : Hp} {xs : List V} {gs : Gs} {a : Addr} {g : Str × Int} (h : PairsAt H xs gs) (ha : H a = some (.tup [.str g.1, .int g.2])) : PairsAt H (xs ++ [.ref a]) (gs ++ [g]) := by
  refine ⟨by rw [List.length_append, List.length_append, h.len]; rfl, fun i g' hg => ?_⟩
  by_cases hi : i < gs.length
  · rw [List.getElem?_append_left hi] at hg
    rw [List.getElem?_append_left (by rw [h.len]; exact hi)]
    exact h.at_ i g' hg
  · have hi' : i = gs.length := by
      have := (List.getElem?_eq_some_iff.mp hg).1
      rw [List.length_append] at this
      simp at this
      omega
    subst hi'
    rw [List.getElem?_append_right (Nat.le_refl _)] at hg
    simp at hg
    subst hg
    refine ⟨a, ?_, ha⟩
    rw [List.getElem?_append_right (by rw [h.len]; exact Nat.le_refl _), h.len]
    simp
theorem take_snoc {α : Type} {l : List α} {i : Nat} {x : α} (h : l[i]? = some x) : l.take (i + 1) = l.take i ++ [x] := by
  rw [List.take_add_one, h]; rfl
theorem wsum_snoc (gs : Gs) (g : Str × Int) : wsum (gs ++ [g]) = wsum gs + g.2 := by
  unfold wsum; rw [List.map_append, List.sum_append]; simp
theorem wsum_nonneg {gs : Gs} (h : ∀ g ∈ gs, 1 ≤ g.2) : 0 ≤ wsum gs := by
  induction gs with
  | nil => exact Int.le_refl _
  | cons g r ih =>
    have h1 := h g (List.mem_cons_self ..)
    have h2 := ih fun x hx => h x (List.mem_cons_of_mem _ hx)
    show 0 ≤ (g.2 :: r.map (·.2)).sum
    rw [List.sum_cons]
    have h3 : 0 ≤ (r.map (·.2)).sum := h2
    omega
theorem wsum_pos {gs : Gs} (h : ∀ g ∈ gs, 1 ≤ g.2) (hn : gs ≠ []) : 1 ≤ wsum gs := by
  cases gs with
  | nil => exact absurd rfl hn
  | cons g r =>
    have h1 := h g (List.mem_cons_self ..)
    have h2 : 0 ≤ wsum r := wsum_nonneg fun x hx => h x (List.mem_cons_of_mem _ hx)
    show 1 ≤ (g.2 :: r.map (·.2)).sum
    rw [List.sum_cons]
    have h3 : 0 ≤ (r.map (·.2)).sum := h2
    omega
theorem wsum_le {gs : Gs} {m : Int} (h : ∀ g ∈ gs, g.2 ≤ m) : wsum gs ≤ m * gs.length := by
  induction gs with
  | nil => show (0 : Int) ≤ m * 0; omega
  | cons g r ih =>
    have h1 := h g (List.mem_cons_self ..)
    have h2 := ih fun x hx => h x (List.mem_cons_of_mem _ hx)
    have e : wsum (g :: r) = g.2 + wsum r := by show (g.2 :: r.map (·.2)).sum = _; rw [List.sum_cons]; rfl
    rw [e, List.length_cons, Int.natCast_add, Int.mul_add]
    omega
def thr (gs : Gs) : Int := wsum gs * 2 / 3 + 1
/-- a set's total, its bounds -/
structure GsOk (gs : Gs) : Prop where
  pos : ∀ g ∈ gs, 1 ≤ g.2
  top : ∀ g ∈ gs, g.2 ≤ 1000000
  few : gs.length ≤ 1000
theorem GsOk.lo {gs : Gs} (h : GsOk gs) : 0 ≤ wsum gs := wsum_nonneg h.pos
theorem GsOk.hi {gs : Gs} (h : GsOk gs) : wsum gs ≤ 1000000000 := by
  have h1 := wsum_le h.top
  have h2 := h.few
  omega
theorem GsOk.take {gs : Gs} (h : GsOk gs) (i : Nat) : GsOk (gs.take i) :=
  ⟨fun g hg => h.pos g (List.mem_of_mem_take hg), fun g hg => h.top g (List.mem_of_mem_take hg), by rw [List.length_take]; have := h.few; omega⟩
def sp_total (K : PySem.W.Frag) : Sp := fun vs H Q _ => ∃ (a : Addr) (xs : List V) (gs : Gs), vs = [.ref a] ∧ SqT K H a xs ∧ PairsAt H xs gs ∧ GsOk gs ∧ ∀ H', Same H H' → Q (.int (wsum gs)) H'
def sp_threshold (K : PySem.W.Frag) : Sp := fun vs H Q _ => ∃ (a : Addr) (xs : List V) (gs : Gs), vs = [.ref a] ∧ SqT K H a xs ∧ PairsAt H xs gs ∧ GsOk gs ∧ ∀ H', Same H H' → Q (.int (thr gs)) H'
def sp_minority (K : PySem.W.Frag) : Sp := fun vs H Q _ => ∃ (a : Addr) (xs : List V) (gs : Gs), vs = [.ref a] ∧ SqT K H a xs ∧ PairsAt H xs gs ∧ GsOk gs ∧ ∀ H', Same H H' → Q (.int (wsum gs - thr gs + 1)) H'

/-! the law's sets -/
def nm (k : Nat) : Str := ("g" : Str) ++ (toString (k : Int) : Str)
def allNames : List Str := (List.range 7).map nm
theorem allNames_nodup : allNames.Nodup := by decide +kernel
theorem allNames_len : allNames.length = 7 := rfl
/-- a drawn set -/
structure Drawn (gs : Gs) : Prop where
  ne : gs ≠ []
  few : gs.length ≤ 7
  nd : (gs.map (·.1)).Nodup
  nms : ∀ g ∈ gs, g.1 ∈ allNames
  pos : ∀ g ∈ gs, 1 ≤ g.2
  top : ∀ g ∈ gs, g.2 ≤ 50
theorem Drawn.ok {gs : Gs} (h : Drawn gs) : GsOk gs := ⟨h.pos, fun g hg => by have := h.top g hg; omega, by have := h.few; omega⟩
def sp_Lset : Sp := fun vs H Q _ => ∃ (p l : Addr) (m : Int), vs = [.ref p, .int m] ∧ PotAt H p l ∧ 0 < m ∧ m ≤ 7 ∧ ∀ (a : Addr) (xs : List V) (gs : Gs) (H' : Hp), H a = none → H' a = some (.tup xs) → PairsAt H' xs gs → Drawn gs → (gs.length : Int) ≤ m → PotAt H' p l → Kp p H H' → Q (.ref a) H'
theorem perm_eraseIdx {α : Type} : ∀ {l : List α} {n : Nat} {x : α}, l[n]? = some x → (x :: l.eraseIdx n).Perm l
  | [], _, _, h => by simp at h
  | a :: r, 0, x, h => by
    have e : a = x := Option.some.inj h
    subst e
    exact List.Perm.refl _
  | a :: r, n + 1, x, h => by
    have ih := perm_eraseIdx (l := r) (n := n) (x := x) h
    show (x :: a :: r.eraseIdx n).Perm (a :: r)
    exact (List.Perm.swap a x _).trans (List.Perm.cons a ih)
theorem map_erase {α β : Type} (f : α → β) : ∀ (l : List α) (n : Nat), (l.map f).eraseIdx n = (l.eraseIdx n).map f
  | [], _ => rfl
  | _ :: _, 0 => rfl
  | a :: r, n + 1 => by
    show f a :: (r.map f).eraseIdx n = f a :: (r.eraseIdx n).map f
    rw [map_erase f r n]
theorem PairsAt.updL {H : Hp} {xs zs ys : List V} {gs : Gs} {F : Addr} (h : PairsAt H xs gs) (hF : H F = some (.lst ys)) : PairsAt (upd H F (.lst zs)) xs gs :=
  h.mono fun b ws q => upd_other (ne_of q hF (by intro z; cases z)) q
theorem PairsAt.new {H : Hp} {xs : List V} {gs : Gs} {F : Addr} {o : HO} (h : PairsAt H xs gs) (hF : H F = none) : PairsAt (upd H F o) xs gs :=
  h.mono fun b ws q => upd_new hF q
theorem PairsAt.kp {H H' : Hp} {xs : List V} {gs : Gs} {p l : Addr} (h : PairsAt H xs gs) (pot : PotAt H p l) (kp : Kp p H H') : PairsAt H' xs gs :=
  h.mono fun b ws q => by
    obtain ⟨ns, i, c, s, h1, _⟩ := pot
    exact kp _ _ q (ne_of q h1 (by intro z; cases z))
theorem nm_short : ∀ k : Nat, k < 7 → (Str.ofString (toString (k : Int))).length ≤ 5 := by decide +kernel
theorem names_pop {gn ss : List Str} {x : Str} {n : Nat} (hx : ss[n]? = some x) (h : (gn ++ ss).Nodup) : ((gn ++ [x]) ++ ss.eraseIdx n).Nodup := by
  obtain ⟨hn, e⟩ := List.getElem?_eq_some_iff.mp hx
  have hp : (x :: ss.eraseIdx n).Perm ss := perm_eraseIdx hx
  rw [List.append_assoc]
  exact (List.Perm.append_left gn hp).nodup_iff.mpr h
section
variable {P : Program} {w : World} {K : PySem.W.Frag} {mg : Str → Option Value} {base : Heap}
theorem ok_L_set (T : Txt K mg) : FnOk P w K mg base CX0 2 T.f_L_set T.d_L_set ["pot", "most"] sp_Lset := by
  refine T.F_L_set.ok sc_L_set (fun vs H Q E h => ?_) (fun cdv A outer s H vs Q E hr h => ?_)
  · obtain ⟨p, l, m, rfl, _⟩ := h; rfl
  · obtain ⟨p, l, m, rfl, pot, hm, hm7, k⟩ := h
    refine ⟨_, (pss_cons (ps_setLc (i := 2) (own := [("k", 4)]) (g := (gName 4)) (tt := tYes) (te := (tOp rAddStr (tC (.str "g")) (tCB rStrInt (tCons (tVar 4) tNil)))) rfl sc_L_set.nd rfl rfl (sw_true rfl rfl rfl (by decide +kernel)) (pi_range1 (by rfl) T.z_range (pa_cons pe_int pa_nil)) (blkOk_by (own := [("k", 4)]) (N := ["pot", "most", "names", "found", "k"]) (sc := defScope s_L_set) (by decide +kernel)) (fun _ _ _ _ _ => (pg_name (i := 4) sc_L_set.nd rfl (Or.inl rfl))) (fun _ _ _ _ _ => pts_nil) (fun _ _ _ _ _ => (pe_op oq_addStr pe_str (pe_callTy cq_strInt (by rfl) T.z_str boot_str (pa_cons (pv 4) pa_nil)))))
      (pss_cons (ps_set (i := 3) sc_L_set.nd rfl (Or.inl rfl) (pe_lst pa_nil))
      (pss_cons (ps_for PassesOwn.never rfl (pi_range1 (by rfl) T.z_range (pa_cons (pe_op op_add pe_int (pe_call (ok_L_next T) (hr.mono (by decide)) (by rfl) T.g_L_next T.F_L_next.kp T.b_L_next .nil pass0 (pa_cons (pv 0) (pa_cons (pv 1) pa_nil)))) pa_nil)) (pg_name (i := 4) sc_L_set.nd rfl (Or.inl rfl))
        (pss_one (ps_expr (pe_bm PySem.F.plainAttrs_list PySem.F.slot_list_append PySem.F.type_list_append mt_append (pv 3) (pa_cons (pe_tup (pa_cons (pe_bm PySem.F.plainAttrs_list PySem.F.slot_list_pop PySem.F.type_list_pop mt_popAt (pv 2) (pa_cons (pe_call (ok_L_next T) (hr.mono (by decide)) (by rfl) T.g_L_next T.F_L_next.kp T.b_L_next .nil pass0 (pa_cons (pv 0) (pa_cons (pe_callB cq_len (by rfl) T.z_len boot_len (pa_cons (pv 2) pa_nil)) pa_nil))) pa_nil)) (pa_cons (pe_op op_add pe_int (pe_call (ok_L_next T) (hr.mono (by decide)) (by rfl) T.g_L_next T.F_L_next.kp T.b_L_next .nil pass0 (pa_cons (pv 0) (pa_cons (pe_ix ix_list (pe_lst (pa_cons pe_int (pa_cons pe_int (pa_cons pe_int pa_nil)))) (pe_call (ok_L_next T) (hr.mono (by decide)) (by rfl) T.g_L_next T.F_L_next.kp T.b_L_next .nil pass0 (pa_cons (pv 0) (pa_cons pe_int pa_nil))) (fun _ _ => rfl)) pa_nil)))) pa_nil))) pa_nil)))))
      (pss_one (ps_ret (pe_callTy cq_tupOf (by rfl) T.z_tuple boot_tuple (pa_cons (pv 3) pa_nil))))))), ?_⟩
    (dsimp only [cxOf, Cx.nox, Cx.wish, L2.start, List.map, List.length, List.replicate, List.cons_append, List.nil_append, List.append_eq, Nat.reduceSub, Nat.reduceAdd])
    walk_at "my_rd"
    refine q_lcR ⟨by decide, by decide⟩ (fun N nN => ⟨fun i H2 => Same H H2 ∧ H2 N = some (.lst (((List.range i).map nm).map V.str)), ⟨Same.new (Same.refl _) nN, upd_same⟩, ?_, ?_⟩)
    · rintro i H2 hi ⟨sm, hD⟩
      have hi7 : i < 7 := by omega
      walk_at "my_rd"
      refine ⟨rfl, ?_⟩
      walk_at "my_rd"
      refine q_strInt (Nat.lt_of_le_of_lt (Nat.log2_le_self _) (by omega)) ?_
      refine q_addStr ?_ ?_
      · have := nm_short i hi7
        have h1 : (Str.ofString "g").length = 1 := rfl
        exact Nat.le_of_lt (small1000 (by omega))
      · walk_at "my_rd"
        refine q_accK hD (by rw [List.length_map, List.length_map, List.length_range]; exact small1000 (by omega)) ⟨Same.new sm nN, ?_⟩
        rw [upd_same, List.range_succ, List.map_append, List.map_append]
        rfl
    · rintro H2 ⟨sm, hN⟩
      have hN : H2 N = some (.lst (allNames.map V.str)) := hN
      walk_at "my_rd"
      refine q_lstK (Nat.zero_le _) fun F nF => ?_
      have nNF : N ≠ F := ne_of_none hN nF
      have hF0 : H F = none := Same.free sm nF
      have nNp : N ≠ p := pot.nep nN
      have nNl : N ≠ l := pot.nel nN
      have nFp : F ≠ p := pot.nep hF0
      have nFl : F ≠ l := pot.nel hF0
      walk_at "my_rd"
      refine ⟨p, l, m, rfl, (pot.same sm).new nF, hm, by omega, fun r H4 r0 r1 pot4 kp4 => ?_⟩
      have hN4 : H4 N = some (.lst (allNames.map V.str)) := Kp.get kp4 (upd_new nF hN) nNp
      have hF4 : H4 F = some (.lst []) := Kp.get kp4 upd_same nFp
      have kp0 : Kp p H H4 := Kp.trans (Kp.new (Same.kp sm) hF0) kp4
      walk_at "my_rd"
      refine q_forR ⟨by omega, by omega⟩ (fun i σ H5 => ∃ (ss : List Str) (xs : List V) (gs : Gs) (kv : Option V), σ = [some (.ref p), some (.int m), some (.ref N), some (.ref F), kv] ∧ H5 N = some (.lst (ss.map V.str)) ∧ H5 F = some (.lst xs) ∧ PairsAt H5 xs gs ∧ gs.length = i ∧ ss.length + i = 7 ∧ (gs.map (·.1) ++ ss).Nodup ∧ (∀ g ∈ gs, g.1 ∈ allNames) ∧ (∀ s ∈ ss, s ∈ allNames) ∧ (∀ g ∈ gs, 1 ≤ g.2) ∧ (∀ g ∈ gs, g.2 ≤ 50) ∧ PotAt H5 p l ∧ Kp p H H5)
        ⟨allNames, [], [], none, rfl, hN4, hF4, PairsAt.nil, rfl, allNames_len, allNames_nodup, by simp, fun s hs => hs, by simp, by simp, pot4, kp0⟩ ?_ ?_
      · rintro i σ H5 hi ⟨ss, xs, gs, kv, rfl, hN5, hF5, hP5, hl, hsl, hnd, hnm, hss, hpos, htop, pot5, kp5⟩
        walk_at "my_rd"
        refine ⟨p, l, _, rfl, pot5, by rw [List.length_map]; omega, by rw [List.length_map]; omega, fun r2 H6 a0 a1 pot6 kp6 => ?_⟩
        rw [List.length_map] at a1
        have hN6 : H6 N = some (.lst (ss.map V.str)) := Kp.get kp6 hN5 nNp
        have hF6 : H6 F = some (.lst xs) := Kp.get kp6 hF5 nFp
        have hP6 := hP5.kp pot5 kp6
        have hr2 : r2.toNat < ss.length := by omega
        have hx : ss[r2.toNat]? = some ss[r2.toNat] := List.getElem?_eq_getElem hr2
        walk_at "my_rd"
        refine q_popAt (n := r2.toNat) hN6 (by omega) (by rw [List.length_map]; exact hr2) (by omega) (v := .str ss[r2.toNat]) (by rw [List.getElem?_map, hx]; rfl) ?_
        rw [map_erase]
        generalize hH7 : upd H6 N (HO.lst ((ss.eraseIdx r2.toNat).map V.str)) = H7
        have hN7 : H7 N = some (.lst ((ss.eraseIdx r2.toNat).map V.str)) := by rw [← hH7]; exact upd_same
        have hF7 : H7 F = some (.lst xs) := by rw [← hH7]; exact upd_other nNF.symm hF6
        have hP7 : PairsAt H7 xs gs := by rw [← hH7]; exact hP6.updL hN6
        have pot7 : PotAt H7 p l := by rw [← hH7]; exact pot6.upd nNp nNl
        have kp7 : Kp p H H7 := by rw [← hH7]; exact Kp.new (Kp.trans kp5 kp6) nN
        walk_at "my_rd"
        refine q_lstK (by decide) fun M nM => ?_
        walk_at "my_rd"
        refine ⟨p, l, 3, rfl, pot7.new nM, by omega, by omega, fun r3 H8 b0 b1 pot8 kp8 => ?_⟩
        have hM8 : H8 M = some (.lst [.int 1, .int 4, .int 50]) := Kp.get kp8 upd_same (pot7.nep nM)
        obtain ⟨lim, hlim, l0, l1⟩ : ∃ lim : Int, atI [V.int 1, V.int 4, V.int 50] r3 = some (.int lim) ∧ 1 ≤ lim ∧ lim ≤ 50 := by
          have : r3 = 0 ∨ r3 = 1 ∨ r3 = 2 := by omega
          rcases this with rfl | rfl | rfl
          · exact ⟨1, rfl, by omega, by omega⟩
          · exact ⟨4, rfl, by omega, by omega⟩
          · exact ⟨50, rfl, by omega, by omega⟩
        walk_at "my_rd"
        refine q_ixLt hM8 hlim ?_
        walk_at "my_rd"
        refine ⟨p, l, lim, rfl, pot8, by omega, by omega, fun r4 H9 c0 c1 pot9 kp9 => ?_⟩
        have kp79 : Kp p (upd H7 M (.lst [.int 1, .int 4, .int 50])) H9 := Kp.trans kp8 kp9
        have hN9 : H9 N = some (.lst ((ss.eraseIdx r2.toNat).map V.str)) := Kp.get kp79 (upd_new nM hN7) nNp
        have hF9 : H9 F = some (.lst xs) := Kp.get kp79 (upd_new nM hF7) nFp
        have hP9 : PairsAt H9 xs gs := (hP7.new nM).kp (pot7.new nM) kp79
        have hM0 : H M = none := Kp.fresh kp7 pot.at.choose_spec nM (pot7.nep nM)
        have kp09 : Kp p H H9 := Kp.trans (Kp.new kp7 hM0) kp79
        walk_at "my_rd"
        refine q_tupK (by show 2 ≤ sizeLine; decide) fun U nU => ?_
        have hU0 : H U = none := Kp.fresh kp09 pot.at.choose_spec nU (pot9.nep nU)
        have nFU : F ≠ U := ne_of_none hF9 nU
        have nNU : N ≠ U := ne_of_none hN9 nU
        walk_at "my_rd"
        refine q_append (upd_new nU hF9) (by rw [hP9.len]; exact small1000 (by omega)) ?_
        walk_at "my_rd"
        refine ⟨ss.eraseIdx r2.toNat, xs ++ [.ref U], gs ++ [(ss[r2.toNat], 1 + r4)], _, rfl, upd_other nNF (upd_new nU hN9), upd_same, ?_, by rw [List.length_append, hl]; rfl, ?_, ?_, ?_, ?_, ?_, ?_, (pot9.new nU).upd nFp nFl, Kp.new (Kp.new kp09 hU0) hF0⟩
        · exact ((hP9.new nU).snoc (g := (ss[r2.toNat], 1 + r4)) upd_same).updL (upd_new nU hF9)
        · rw [List.length_eraseIdx_of_lt hr2]; omega
        · rw [List.map_append]
          exact names_pop hx hnd
        · intro g hg
          rcases List.mem_append.mp hg with h | h
          · exact hnm g h
          · rw [List.mem_singleton.mp h]; exact hss _ (List.mem_of_getElem? hx)
        · intro z hz
          exact hss z (List.mem_of_mem_eraseIdx hz)
        · intro g hg
          rcases List.mem_append.mp hg with h | h
          · exact hpos g h
          · rw [List.mem_singleton.mp h]; show 1 ≤ 1 + r4; omega
        · intro g hg
          rcases List.mem_append.mp hg with h | h
          · exact htop g h
          · rw [List.mem_singleton.mp h]; show 1 + r4 ≤ 50; omega
      · rintro σ H5 ⟨ss, xs, gs, kv, rfl, hN5, hF5, hP5, hl, hsl, hnd, hnm, hss, hpos, htop, pot5, kp5⟩
        walk_at "my_rd"
        refine q_tupL (sqL hF5) fun a na => ?_
        walk_at "my_rd"
        refine k a xs gs _ (Kp.fresh kp5 pot.at.choose_spec na (pot5.nep na)) upd_same (hP5.new na) ⟨?_, by omega, (List.nodup_append.mp hnd).1, hnm, hpos, htop⟩ (by omega) (pot5.new na) (Kp.new kp5 (Kp.fresh kp5 pot.at.choose_spec na (pot5.nep na)))
        rintro rfl
        simp at hl
        omega
end

/-! values as data -/
def intD : PyData → Bool
  | .int _ => true
  | _ => false
def boolD : PyData → Bool
  | .bool _ => true
  | _ => false
def strD : PyData → Bool
  | .str _ => true
  | _ => false
def tupD : PyData → Bool
  | .tuple _ => true
  | _ => false
def leastD (n : Int) : PyData → Bool
  | .int i => decide (n ≤ i)
  | _ => false
def okCode (c : Nat) : Bool := decide (32 ≤ c) && decide (c ≤ 126) && !decide (c = 37)
def textS (s : Str) : Bool := s.cps.toList.all okCode
def textD : PyData → Bool
  | .str s => textS s
  | _ => false
def shortD (m : Int) : PyData → Bool
  | .str s => textS s && (decide (1 ≤ (s.length : Int)) && decide ((s.length : Int) ≤ m))
  | _ => false
def accD : PyData → Bool := shortD 20
/-- the type of a value -/
def tyD : PyData → String
  | .none => "NoneType"
  | .bool _ => "bool"
  | .int _ => "int"
  | .str _ => "str"
  | .list _ => "list"
  | .tuple _ => "tuple"
  | .dict _ => "dict"
theorem dp_ty {K : PySem.W.Frag} {H : Hp} {v : V} {d : PyData} (h : Dp K H v d) : TyX K H v (.type (tyD d)) := by
  cases h with
  | non => exact .base .non
  | bl b => exact .base (.bl b)
  | int i => exact .base (.int i)
  | str x => exact .base (.str x)
  | lst h1 h2 =>
    rcases h1 with (h | ⟨o, h⟩) | ⟨o, its, n, h, h3, _⟩
    · exact .base (.lst h)
    · exact .base (.frz h)
    · exact .kList h h3
  | tup h1 h2 =>
    rcases h1 with (h | ⟨o, h⟩) | ⟨o, its, n, h, h3, _⟩
    · exact .base (.tup h)
    · exact .fTuple h
    · exact .kTuple h h3
def tyB (n : String) (d : PyData) : Bool := decide (tyD d = n) || (decide (n = "int") && decide (tyD d = "bool"))
theorem q_isiD {K : PySem.W.Frag} {H : Hp} {Q : VK} {v : V} {d : PyData} {n : String} {b : Bool} (h : Dp K H v d) (hk : kitB (tyD d) n = some b) (k : Q (.bl b) H) : rIsi K [v, .ty n] H Q := q_isi (dp_ty h) (kit_ty hk) k
theorem kit_int (d : PyData) : kitB (tyD d) "int" = some (intD d || boolD d) := by
  cases d <;> first | exact (by decide +kernel : kitB "NoneType" "int" = some false) | exact (by decide +kernel : kitB "bool" "int" = some true) | exact (by decide +kernel : kitB "int" "int" = some true) | exact (by decide +kernel : kitB "str" "int" = some false) | exact (by decide +kernel : kitB "list" "int" = some false) | exact (by decide +kernel : kitB "tuple" "int" = some false) | exact (by decide +kernel : kitB "dict" "int" = some false)
theorem kit_bool (d : PyData) : kitB (tyD d) "bool" = some (boolD d) := by
  cases d <;> first | exact (by decide +kernel : kitB "NoneType" "bool" = some false) | exact (by decide +kernel : kitB "bool" "bool" = some true) | exact (by decide +kernel : kitB "int" "bool" = some false) | exact (by decide +kernel : kitB "str" "bool" = some false) | exact (by decide +kernel : kitB "list" "bool" = some false) | exact (by decide +kernel : kitB "tuple" "bool" = some false) | exact (by decide +kernel : kitB "dict" "bool" = some false)
theorem kit_str (d : PyData) : kitB (tyD d) "str" = some (strD d) := by
  cases d <;> first | exact (by decide +kernel : kitB "NoneType" "str" = some false) | exact (by decide +kernel : kitB "bool" "str" = some false) | exact (by decide +kernel : kitB "int" "str" = some false) | exact (by decide +kernel : kitB "str" "str" = some true) | exact (by decide +kernel : kitB "list" "str" = some false) | exact (by decide +kernel : kitB "tuple" "str" = some false) | exact (by decide +kernel : kitB "dict" "str" = some false)
theorem kit_tuple (d : PyData) : kitB (tyD d) "tuple" = some (tupD d) := by
  cases d <;> first | exact (by decide +kernel : kitB "NoneType" "tuple" = some false) | exact (by decide +kernel : kitB "bool" "tuple" = some false) | exact (by decide +kernel : kitB "int" "tuple" = some false) | exact (by decide +kernel : kitB "str" "tuple" = some false) | exact (by decide +kernel : kitB "list" "tuple" = some false) | exact (by decide +kernel : kitB "tuple" "tuple" = some true) | exact (by decide +kernel : kitB "dict" "tuple" = some false)
mutual
theorem dp_mono {K : PySem.W.Frag} {H H' : Hp} (sm : Same H H') : ∀ {v : V} {d : PyData}, Dp K H v d → Dp K H' v d
  | _, _, .non => .non
  | _, _, .bl b => .bl b
  | _, _, .int i => .int i
  | _, _, .str x => .str x
  | _, _, .lst h1 h2 => .lst (Same.seq sm h1) (dpall_mono sm h2)
  | _, _, .tup h1 h2 => .tup (Same.sqT sm h1) (dpall_mono sm h2)
theorem dpall_mono {K : PySem.W.Frag} {H H' : Hp} (sm : Same H H') : ∀ {vs : List V} {ds : List PyData}, DpAll K H vs ds → DpAll K H' vs ds
  | _, _, .nil => .nil
  | _, _, .cons h1 h2 => .cons (dp_mono sm h1) (dpall_mono sm h2)
end
theorem dpall_len {K : PySem.W.Frag} {H : Hp} : ∀ {vs : List V} {ds : List PyData}, DpAll K H vs ds → vs.length = ds.length
  | _, _, .nil => rfl
  | _, _, .cons _ h => by rw [List.length_cons, List.length_cons, dpall_len h]
theorem dpall_get {K : PySem.W.Frag} {H : Hp} : ∀ {vs : List V} {ds : List PyData} {i : Nat} {v : V}, DpAll K H vs ds → vs[i]? = some v → ∃ d, ds[i]? = some d ∧ Dp K H v d
  | _, _, _, _, .nil, e => by simp at e
  | _, _, 0, _, .cons h _, e => by
    simp at e
    subst e
    exact ⟨_, rfl, h⟩
  | _, _, i + 1, v, .cons _ h, e => by
    obtain ⟨d, h1, h2⟩ := dpall_get h (i := i) (v := v) (by simpa using e)
    exact ⟨d, by simpa using h1, h2⟩
def Fine : PyData → Prop
  | .str s => s.length ≤ 100000
  | _ => True
/-- a def that tells something of one value -/
def sp_tell (K : PySem.W.Frag) (f : PyData → Bool) : Sp := fun vs H Q _ => ∃ (v : V) (d : PyData), vs = [v] ∧ Dp K H v d ∧ Fine d ∧ ∀ H', Same H H' → Q (.bl (f d)) H'
def sp_tell2 (K : PySem.W.Frag) (f : Int → PyData → Bool) : Sp := fun vs H Q _ => ∃ (v : V) (d : PyData) (n : Int), vs = [v, .int n] ∧ Dp K H v d ∧ Fine d ∧ ∀ H', Same H H' → Q (.bl (f n d)) H'
section
variable {P : Program} {w : World} {K : PySem.W.Frag} {mg : Str → Option Value} {base : Heap}
theorem ok_is_integer (T : Txt K mg) : FnOk P w K mg base CX0 1 T.f_is_integer T.d_is_integer ["value"] (sp_tell K intD) := by
  refine T.F_is_integer.ok sc_is_integer (fun vs H Q E h => ?_) (fun cdv A outer s H vs Q E hr h => ?_)
  · obtain ⟨v, d, rfl, _⟩ := h; rfl
  · obtain ⟨v, d, rfl, hd, _, k⟩ := h
    refine ⟨_, (pss_one (ps_ret (pe_and (pe_callB call_isi (by rfl) T.z_isinstance boot_isinstance (pa_cons (pv 0) (pa_cons (pe_bltn (v := .ty "int") (by rfl) T.z_int boot_int rfl) pa_nil))) (pe_one (pe_not (pe_callB call_isi (by rfl) T.z_isinstance boot_isinstance (pa_cons (pv 0) (pa_cons (pe_bltn (v := .ty "bool") (by rfl) T.z_bool boot_bool rfl) pa_nil)))))))), ?_⟩
    (dsimp only [cxOf, Cx.nox, Cx.wish, L2.start, List.map, List.length, List.replicate, List.cons_append, List.nil_append, List.append_eq, Nat.reduceSub, Nat.reduceAdd])
    walk_at "my_rd"
    refine q_isiD hd (kit_int d) ?_
    refine q_andV2 (fun h => ?_) (fun h => ?_)
    · walk_at "my_rd"
      refine q_isiD hd (kit_bool d) ?_
      walk_at "my_rd"
      have e : (!boolD d) = intD d := by cases d <;> first | rfl | cases h
      rw [e]
      exact k H (Same.refl _)
    · have e : false = intD d := by cases d <;> first | rfl | cases h
      rw [e]
      exact k H (Same.refl _)
theorem ok_is_at_least (T : Txt K mg) : FnOk P w K mg base CX0 2 T.f_is_at_least T.d_is_at_least ["value", "least"] (sp_tell2 K leastD) := by
  refine T.F_is_at_least.ok sc_is_at_least (fun vs H Q E h => ?_) (fun cdv A outer s H vs Q E hr h => ?_)
  · obtain ⟨v, d, n, rfl, _⟩ := h; rfl
  · obtain ⟨v, d, n, rfl, hd, hf, k⟩ := h
    refine ⟨_, (pss_one (ps_ret (pe_and (pe_call (ok_is_integer T) (hr.mono (by decide)) (by rfl) T.g_is_integer T.F_is_integer.kp T.b_is_integer .nil pass0 (pa_cons (pv 0) pa_nil)) (pe_one (pe_cmpR op_ge (pv 0) (pv 1) (nomark _)))))), ?_⟩
    (dsimp only [cxOf, Cx.nox, Cx.wish, L2.start, List.map, List.length, List.replicate, List.cons_append, List.nil_append, List.append_eq, Nat.reduceSub, Nat.reduceAdd])
    walk_at "my_rd"
    refine ⟨v, d, rfl, hd, hf, fun H1 sm => ?_⟩
    refine q_andV2 (fun h => ?_) (fun h => ?_)
    · cases hd with
      | int i =>
        walk_at "my_rd"
        exact k H1 sm
      | _ => cases h
    · have e : false = leastD n d := by cases d <;> first | rfl | cases h
      rw [e]
      exact k H1 sm
theorem ok_is_text (T : Txt K mg) : FnOk P w K mg base CX0 1 T.f_is_text T.d_is_text ["value"] (sp_tell K textD) := by
  refine T.F_is_text.ok sc_is_text (fun vs H Q E h => ?_) (fun cdv A outer s H vs Q E hr h => ?_)
  · obtain ⟨v, d, rfl, _⟩ := h; rfl
  · obtain ⟨v, d, rfl, hd, _, k⟩ := h
    refine ⟨_, (pss_cons (ps_if (pt_not (pt_val (pe_callB call_isi (by rfl) T.z_isinstance boot_isinstance (pa_cons (pv 0) (pa_cons (pe_bltn (v := .ty "str") (by rfl) T.z_str boot_str rfl) pa_nil))))) (pss_one (ps_ret pe_bl)) pss_nil)
      (pss_cons (ps_for PassesOwn.never rfl (pi_str (pv 0)) (pg_name (i := 1) sc_is_text.nd rfl (Or.inl rfl))
        (pss_cons (ps_set (i := 2) sc_is_text.nd rfl (Or.inl rfl) (pe_callB cq_ord (by rfl) T.z_ord boot_ord (pa_cons (pv 1) pa_nil)))
      (pss_one (ps_if (PW.pt (pw_or (pt_cmpR op_lt (pv 2) (pe_glob (v := .int 32) (by rfl) T.c_FIRST_CODE ⟨_, rfl⟩) (nomark _)) (pw_or (pt_cmpR op_gt (pv 2) (pe_glob (v := .int 126) (by rfl) T.c_LAST_CODE ⟨_, rfl⟩) (nomark _)) (pw_or1 (pt_cmpR op_eq (pv 2) (pe_glob (v := .int 37) (by rfl) T.c_BARRED_CODE ⟨_, rfl⟩) (nomark _)))))) (pss_one (ps_ret pe_bl)) pss_nil))))
      (pss_one (ps_ret pe_bl)))), ?_⟩
    (dsimp only [cxOf, Cx.nox, Cx.wish, L2.start, List.map, List.length, List.replicate, List.cons_append, List.nil_append, List.append_eq, Nat.reduceSub, Nat.reduceAdd])
    walk_at "my_rd"
    refine q_isiD hd (kit_str d) ?_
    walk_at "my_rd"
    cases hd with
    | str x =>
      show ifK _ _ _ _ false H
      walk_at "my_rd"
      refine q_forS (fun i σ H2 => ∃ c1 c2, σ = [some (.str x), c1, c2] ∧ H2 = H ∧ (x.cps.toList.take i).all okCode = true) ⟨_, _, rfl, rfl, rfl⟩ ?_ ?_
      · rintro i c σ H2 hc ⟨c1, c2, rfl, rfl, hall⟩
        have hc' : x.cps.toList[i]? = some c := by rw [Array.getElem?_toList]; exact hc
        have bad : okCode c = false → textD (.str x) = false := fun h => by
          show x.cps.toList.all okCode = false
          rw [List.all_eq_false]
          exact ⟨c, List.mem_of_getElem? hc', by rw [h]; exact Bool.false_ne_true⟩
        walk_at "my_rd"
        refine q_or2 (fun h => ?_) (fun h1 => ?_)
        · walk_at "my_rd"
          have h := dec_t h
          rw [← bad (by unfold okCode; rw [decide_eq_false (show ¬ 32 ≤ c by omega)]; rfl)]
          exact k _ (Same.refl _)
        · walk_at "my_rd"
          refine q_or2 (fun h => ?_) (fun h2 => ?_)
          · walk_at "my_rd"
            have h := dec_t h
            rw [← bad (by unfold okCode; rw [decide_eq_false (show ¬ c ≤ 126 by omega), Bool.and_false]; rfl)]
            exact k _ (Same.refl _)
          · walk_at "my_rd"
            refine q_if2 (fun h => ?_) (fun h3 => ?_)
            · walk_at "my_rd"
              have h := dec_t h
              rw [← bad (by unfold okCode; rw [decide_eq_true (show c = 37 by omega), Bool.and_comm]; rfl)]
              exact k _ (Same.refl _)
            · walk_at "my_rd"
              have h1 := dec_f h1
              have h2 := dec_f h2
              have h3 := dec_f h3
              refine ⟨_, _, rfl, rfl, ?_⟩
              rw [take_snoc hc', List.all_append, hall, Bool.true_and, List.all_cons, List.all_nil, Bool.and_true]
              unfold okCode
              rw [decide_eq_true (show 32 ≤ c by omega), decide_eq_true (show c ≤ 126 by omega), decide_eq_false (show ¬ c = 37 by omega)]
              rfl
      · rintro σ H2 ⟨c1, c2, rfl, rfl, hall⟩
        walk_at "my_rd"
        have e : textD (.str x) = true := by
          have e2 : x.cps.toList.take x.cps.size = x.cps.toList := List.take_of_length_le (by simp)
          rw [e2] at hall
          exact hall
        rw [← e]
        exact k _ (Same.refl _)
    | _ =>
      show ifK _ _ _ _ true H
      walk_at "my_rd"
      exact k H (Same.refl _)
theorem ok_is_short_text (T : Txt K mg) : FnOk P w K mg base CX0 2 T.f_is_short_text T.d_is_short_text ["value", "most"] (sp_tell2 K shortD) := by
  refine T.F_is_short_text.ok sc_is_short_text (fun vs H Q E h => ?_) (fun cdv A outer s H vs Q E hr h => ?_)
  · obtain ⟨v, d, n, rfl, _⟩ := h; rfl
  · obtain ⟨v, d, n, rfl, hd, hf, k⟩ := h
    refine ⟨_, (pss_one (ps_ret (pe_and (pe_call (ok_is_text T) (hr.mono (by decide)) (by rfl) T.g_is_text T.F_is_text.kp T.b_is_text .nil pass0 (pa_cons (pv 0) pa_nil)) (pe_one (pe_chain op_le op_le pe_int (pe_callB cq_lenS (by rfl) T.z_len boot_len (pa_cons (pv 0) pa_nil)) (pv 1)))))), ?_⟩
    (dsimp only [cxOf, Cx.nox, Cx.wish, L2.start, List.map, List.length, List.replicate, List.cons_append, List.nil_append, List.append_eq, Nat.reduceSub, Nat.reduceAdd])
    walk_at "my_rd"
    refine ⟨v, d, rfl, hd, hf, fun H1 sm => ?_⟩
    refine q_andV2 (fun h => ?_) (fun h => ?_)
    · cases hd with
      | str x =>
        have hx : x.length ≤ 100000 := hf
        walk_at "my_rd"
        refine q_lenS (Nat.le_trans hx (by decide)) ?_
        walk_at "my_rd"
        have e : shortD n (.str x) = (decide (1 ≤ (x.length : Int)) && decide ((x.length : Int) ≤ n)) := by
          show (textS x && _) = _
          rw [show textS x = true from h, Bool.true_and]
        refine q_ch2 (fun h1 => ?_) (fun h1 => ?_)
        · walk_at "my_rd"
          rw [h1, Bool.true_and] at e
          rw [← e]
          exact k H1 sm
        · rw [h1, Bool.false_and] at e
          rw [← e]
          exact k H1 sm
      | _ => cases h
    · have e : false = shortD n d := by
        cases d <;> first | rfl | (show false = (_ && _); rw [show textS _ = false from h]; rfl)
      rw [e]
      exact k H1 sm
theorem ok_is_account (T : Txt K mg) : FnOk P w K mg base CX0 3 T.f_is_account T.d_is_account ["value"] (sp_tell K accD) := by
  refine T.F_is_account.ok sc_is_account (fun vs H Q E h => ?_) (fun cdv A outer s H vs Q E hr h => ?_)
  · obtain ⟨v, d, rfl, _⟩ := h; rfl
  · obtain ⟨v, d, rfl, hd, hf, k⟩ := h
    refine ⟨_, (pss_one (ps_ret (pe_call (ok_is_short_text T) (hr.mono (by decide)) (by rfl) T.g_is_short_text T.F_is_short_text.kp T.b_is_short_text .nil pass0 (pa_cons (pv 0) (pa_cons (pe_glob (v := .int 20) (by rfl) T.c_ACCOUNT_LENGTH ⟨_, rfl⟩) pa_nil))))), ?_⟩
    (dsimp only [cxOf, Cx.nox, Cx.wish, L2.start, List.map, List.length, List.replicate, List.cons_append, List.nil_append, List.append_eq, Nat.reduceSub, Nat.reduceAdd])
    walk_at "my_rd"
    exact ⟨v, d, 20, rfl, hd, hf, fun H1 sm => k H1 sm⟩
end

/-! pairs and sets, told of any value -/
def pairD : PyData → Bool
  | .tuple [a, b] => accD a && leastD 1 b
  | _ => false
def nameS : PyData → Str
  | .tuple (.str s :: _) => s
  | _ => ""
def setD : PyData → Bool
  | .tuple ds => !ds.isEmpty && (ds.all pairD && decide ((ds.map nameS).Nodup))
  | _ => false
def FineP (d : PyData) : Prop := ∀ a b, d = .tuple [a, b] → Fine a ∧ Fine b
def FineS (d : PyData) : Prop := ∀ ds, d = .tuple ds → ds.length ≤ 1000 ∧ ∀ x ∈ ds, FineP x
theorem pairD_shape {d : PyData} (h : pairD d = true) : ∃ s n, d = .tuple [.str s, .int n] ∧ accD (.str s) = true ∧ 1 ≤ n := by
  unfold pairD at h
  split at h
  · rename_i a b
    rw [Bool.and_eq_true] at h
    obtain ⟨h1, h2⟩ := h
    cases a <;> try cases h1
    cases b <;> try cases h2
    exact ⟨_, _, rfl, h1, of_decide_eq_true h2⟩
  · cases h
def sp_pair (K : PySem.W.Frag) : Sp := fun vs H Q _ => ∃ (v : V) (d : PyData), vs = [v] ∧ Dp K H v d ∧ FineP d ∧ ∀ H', Same H H' → Q (.bl (pairD d)) H'
def sp_set (K : PySem.W.Frag) : Sp := fun vs H Q _ => ∃ (v : V) (d : PyData), vs = [v] ∧ Dp K H v d ∧ FineS d ∧ ∀ H', Same H H' → Q (.bl (setD d)) H'
theorem mem_names {l : List Key} {s : Str} (ks : List Str) (h : l = ks.map Sum.inr) : (Sum.inr s : Key) ∈ l ↔ s ∈ ks := by
  subst h
  constructor
  · intro m
    obtain ⟨z, hz, e⟩ := List.mem_map.mp m
    cases e
    exact hz
  · exact fun m => List.mem_map.mpr ⟨s, m, rfl⟩
section
variable {P : Program} {w : World} {K : PySem.W.Frag} {mg : Str → Option Value} {base : Heap}
theorem ok_is_pair (T : Txt K mg) : FnOk P w K mg base CX0 4 T.f_is_pair T.d_is_pair ["part"] (sp_pair K) := by
  refine T.F_is_pair.ok sc_is_pair (fun vs H Q E h => ?_) (fun cdv A outer s H vs Q E hr h => ?_)
  · obtain ⟨v, d, rfl, _⟩ := h; rfl
  · obtain ⟨v, d, rfl, hd, hf, k⟩ := h
    refine ⟨_, (pss_one (ps_ret (pe_and (pe_callB call_isi (by rfl) T.z_isinstance boot_isinstance (pa_cons (pv 0) (pa_cons (pe_bltn (v := .ty "tuple") (by rfl) T.z_tuple boot_tuple rfl) pa_nil))) (pe_and (pe_cmpR op_eq (pe_callB cq_len (by rfl) T.z_len boot_len (pa_cons (pv 0) pa_nil)) pe_int (nomark _)) (pe_and (pe_call (ok_is_account T) (hr.mono (by decide)) (by rfl) T.g_is_account T.F_is_account.kp T.b_is_account .nil pass0 (pa_cons (pe_ix ix_tup (pv 0) pe_int (fun _ _ => rfl)) pa_nil)) (pe_one (pe_call (ok_is_at_least T) (hr.mono (by decide)) (by rfl) T.g_is_at_least T.F_is_at_least.kp T.b_is_at_least .nil pass0 (pa_cons (pe_ix ix_tup (pv 0) pe_int (fun _ _ => rfl)) (pa_cons pe_int pa_nil))))))))), ?_⟩
    (dsimp only [cxOf, Cx.nox, Cx.wish, L2.start, List.map, List.length, List.replicate, List.cons_append, List.nil_append, List.append_eq, Nat.reduceSub, Nat.reduceAdd])
    walk_at "my_rd"
    refine q_isiD hd (kit_tuple d) ?_
    cases hd with
    | @tup a xs ds h1 h2 =>
      show andVK _ _ _ (.bl true) H
      walk_at "my_rd"
      refine q_lenT h1 ?_
      walk_at "my_rd"
      have hl := dpall_len h2
      by_cases h : xs.length = 2
      · rw [decide_eq_true (show (xs.length : Int) = 2 by omega)]
        obtain ⟨v0, v1, rfl⟩ : ∃ v0 v1, xs = [v0, v1] := by
          match xs, h with
          | [v0, v1], _ => exact ⟨v0, v1, rfl⟩
        cases h2 with
        | cons d0 h2 =>
          cases h2 with
          | cons d1 h2 =>
            cases h2
            obtain ⟨f0, f1⟩ := hf _ _ rfl
            walk_at "my_rd"
            refine q_ixT h1 rfl ?_
            walk_at "my_rd"
            refine ⟨_, _, rfl, d0, f0, fun H1 sm => ?_⟩
            refine q_andV2 (fun h => ?_) (fun h => ?_)
            · walk_at "my_rd"
              refine q_ixT (Same.sqT sm h1) rfl ?_
              walk_at "my_rd"
              refine ⟨_, _, _, rfl, dp_mono sm d1, f1, fun H2 sm2 => ?_⟩
              rename_i y0 y1
              have e : pairD (.tuple [y0, y1]) = leastD 1 y1 := by
                show (accD y0 && leastD 1 y1) = _
                rw [h, Bool.true_and]
              rw [← e]
              exact k H2 (Same.trans sm sm2)
            · rename_i y0 y1
              have e : false = pairD (.tuple [y0, y1]) := by
                show false = (accD y0 && leastD 1 y1)
                rw [h, Bool.false_and]
              rw [e]
              exact k H1 sm
      · rw [decide_eq_false (show ¬ (xs.length : Int) = 2 by omega)]
        have e : false = pairD (.tuple ds) := by
          unfold pairD
          split
          · rename_i heq
            injection heq with heq
            subst heq
            exact absurd hl h
          · rfl
        walk_at "my_rd"
        rw [e]
        exact k H (Same.refl _)
    | _ =>
      show andVK _ _ _ (.bl false) H
      walk_at "my_rd"
      exact k H (Same.refl _)
theorem ok_is_set (T : Txt K mg) : FnOk P w K mg base CX0 5 T.f_is_set T.d_is_set ["value"] (sp_set K) := by
  refine T.F_is_set.ok sc_is_set (fun vs H Q E h => ?_) (fun cdv A outer s H vs Q E hr h => ?_)
  · obtain ⟨v, d, rfl, _⟩ := h; rfl
  · obtain ⟨v, d, rfl, hd, hf, k⟩ := h
    have hu := hu_of hr
    refine ⟨_, (pss_cons (ps_if (PW.pt (pw_or (pt_not (pt_val (pe_callB call_isi (by rfl) T.z_isinstance boot_isinstance (pa_cons (pv 0) (pa_cons (pe_bltn (v := .ty "tuple") (by rfl) T.z_tuple boot_tuple rfl) pa_nil))))) (pw_or1 (pt_not (pt_truth (pv 0) (by intro _; rfl)))))) (pss_one (ps_ret pe_bl)) pss_nil)
      (pss_cons (ps_set (i := 1) sc_is_set.nd rfl (Or.inl rfl) pe_dnewK)
      (pss_cons (ps_for PassesOwn.never rfl (pi_tup (pv 0)) (pg_name (i := 2) sc_is_set.nd rfl (Or.inl rfl))
        (pss_cons (ps_if (PW.pt (pw_or (pt_not (pt_val (pe_call (ok_is_pair T) (hr.mono (by decide)) (by rfl) T.g_is_pair T.F_is_pair.kp T.b_is_pair .nil pass0 (pa_cons (pv 2) pa_nil)))) (pw_or1 (pt_cmp (pc_din hu (pe_ix ix_tup (pv 2) pe_int (fun _ _ => rfl)) (pv 1)))))) (pss_one (ps_ret pe_bl)) pss_nil)
      (pss_one (ps_dput hu (pv 1) (pe_ix ix_tup (pv 2) pe_int (fun _ _ => rfl)) pe_bl rfl))))
      (pss_one (ps_ret pe_bl))))), ?_⟩
    (dsimp only [cxOf, Cx.nox, Cx.wish, L2.start, List.map, List.length, List.replicate, List.cons_append, List.nil_append, List.append_eq, Nat.reduceSub, Nat.reduceAdd])
    walk_at "my_rd"
    refine q_isiD hd (kit_tuple d) ?_
    cases hd with
    | @tup a xs ds h1 h2 =>
      show bK _ (.bl true) H
      walk_at "my_rd"
      have hl := dpall_len h2
      obtain ⟨hfl, hfp⟩ := hf ds rfl

      refine ⟨!xs.isEmpty, .inr (.inl ⟨xs, h1, rfl⟩), ?_⟩
      cases hx : xs.isEmpty with
      | true =>
        show ifK _ _ _ _ true H
        walk_at "my_rd"
        have e : xs = [] := List.isEmpty_iff.mp hx
        subst e
        have e2 : ds = [] := List.length_eq_zero_iff.mp hl.symm
        subst e2
        exact k H (Same.refl _)
      | false =>
        show ifK _ _ _ _ false H
        walk_at "my_rd"
        refine q_dNew fun F nF => ?_
        walk_at "my_rd"
        have e0 : ds.isEmpty = false := by
          cases ds with
          | nil => rw [List.length_eq_zero_iff.mp hl] at hx; cases hx
          | cons _ _ => rfl
        refine q_forT (Same.sqT (Same.new (Same.refl _) nF) h1) (fun i σ H2 => ∃ (kvs : List (Key × V)) (pv : Option V), σ = [some (.ref a), some (.ref F), pv] ∧ Same H H2 ∧ H2 F = some (.dK kvs) ∧ kvs.map (·.1) = ((ds.take i).map nameS).map Sum.inr ∧ (ds.take i).all pairD = true ∧ ((ds.take i).map nameS).Nodup)
          ⟨[], _, rfl, Same.new (Same.refl _) nF, upd_same, rfl, rfl, List.nodup_nil⟩ (fun i σ H2 _ ⟨_, _, _, sm, _⟩ => Same.sqT sm h1) ?_ ?_
        · rintro i x σ H2 hx ⟨kvs, pv, rfl, sm, hF, hk, hall, hnd⟩
          obtain ⟨dx, hdx, hdp⟩ := dpall_get h2 hx
          have hnf : ∀ b, (ds.take (i + 1)).all pairD = b → (b = false → ds.all pairD = false) := fun b hb hb2 => by
            rw [hb2] at hb
            rw [List.all_eq_false] at hb ⊢
            obtain ⟨z, hz, hp⟩ := hb
            exact ⟨z, List.mem_of_mem_take hz, hp⟩
          walk_at "my_rd"
          refine ⟨x, dx, rfl, dp_mono sm hdp, hfp dx (List.mem_of_getElem? hdx), fun H3 sm3 => ?_⟩
          cases hpd : pairD dx with
          | false =>
            walk_at "my_rd"

            walk_at "my_rd"
            have e : false = setD (.tuple ds) := by
              show false = (!ds.isEmpty && (ds.all pairD && _))
              rw [hnf false (by rw [take_snoc hdx, List.all_append, List.all_cons, hpd]; simp) rfl]
              simp
            rw [e]
            exact k H3 (Same.trans sm sm3)
          | true =>
            walk_at "my_rd"
            obtain ⟨nme, wt, rfl, _, _⟩ := pairD_shape hpd
            have hdp3 := dp_mono (Same.trans sm sm3) hdp
            have hF3 := sm3 _ _ hF
            cases hdp3 with
            | @tup b ys es t1 t2 =>
              cases t2 with
              | @cons v0 _ _ _ u0 t2 =>
                cases t2 with
                | cons u1 t3 =>
                cases t3
                cases u0 with
                | str _ =>
                  refine q_ixT t1 rfl ?_
                  walk_at "my_rd"
                  have key : (valV kvs (Sum.inr nme)).isSome = decide (nme ∈ (ds.take i).map nameS) := by
                    cases hv : valV kvs (Sum.inr nme) with
                    | none =>
                      have q := valV_not hv
                      rw [mem_names _ hk] at q
                      exact (decide_eq_false q).symm
                    | some _ =>
                      have q := valV_in hv
                      rw [mem_names _ hk] at q
                      exact (decide_eq_true q).symm
                  rw [key]
                  refine q_if2 (fun h => ?_) (fun h => ?_)
                  · have h := dec_t h
                    walk_at "my_rd"
                    have e : false = setD (.tuple ds) := by
                      show false = (!ds.isEmpty && (ds.all pairD && decide ((ds.map nameS).Nodup)))
                      rw [decide_eq_false, Bool.and_false, Bool.and_false]
                      intro hn
                      have h3 : ((ds.take (i + 1)).map nameS).Nodup := (List.Sublist.map _ (List.take_sublist _ _)).nodup hn
                      rw [take_snoc hdx, List.map_append] at h3
                      exact (List.nodup_append.mp h3).2.2 nme h nme (by simp [nameS]) rfl
                    rw [e]
                    exact k H3 (Same.trans sm sm3)
                  · have h := dec_f h
                    walk_at "my_rd"
                    refine q_ixT t1 rfl ?_
                    have hv : valV kvs (Sum.inr nme) = none := by
                      cases hv : valV kvs (Sum.inr nme) with
                      | none => rfl
                      | some _ =>
                        rw [hv] at key
                        exact absurd (dec_t key.symm) h
                    refine q_dPutS hF3 ?_ ?_
                    · have : kvs.length = (ds.take i).length := by
                        have := congrArg List.length hk
                        simpa using this
                      rw [List.length_take] at this
                      exact small1000 (by omega)
                    · walk_at "my_rd"
                      have e2 : ds.take (i + 1) = ds.take i ++ [PyData.tuple [.str nme, .int wt]] := take_snoc hdx
                      refine ⟨_, _, rfl, Same.new (Same.trans sm sm3) nF, upd_same, ?_, ?_, ?_⟩
                      · rw [putK_new _ hv, List.map_append, hk, e2, List.map_append, List.map_append]
                        rfl
                      · rw [e2, List.all_append, hall, List.all_cons, hpd]
                        rfl
                      · rw [e2, List.map_append]
                        exact nd_snoc hnd h
        · rintro σ H2 ⟨kvs, pv, rfl, sm, hF, hk, hall, hnd⟩
          walk_at "my_rd"
          have et : ds.take xs.length = ds := List.take_of_length_le (by rw [hl]; exact Nat.le_refl _)
          rw [et] at hall hnd
          have e : true = setD (.tuple ds) := by
            show true = (!ds.isEmpty && (ds.all pairD && decide ((ds.map nameS).Nodup)))
            rw [e0, hall, decide_eq_true hnd]
            rfl
          rw [e]
          exact k H2 sm
    | _ =>
      show bK _ (.bl false) H
      walk_at "my_rd"
      exact k H (Same.refl _)
end

/-! sides -/
def flatD : PyData → Bool
  | .none => true
  | .bool _ => true
  | .int _ => true
  | .str _ => true
  | _ => false
def isS (s : Str) : PyData → Bool
  | .str z => decide (z = s)
  | _ => false
def sideD (d : PyData) : Bool := isS "west" d || isS "east" d
def sp_side (K : PySem.W.Frag) : Sp := fun vs H Q _ => ∃ (v : V) (d : PyData), vs = [v] ∧ Dp K H v d ∧ flatD d = true ∧ ∀ H', Same H H' → Q (.bl (sideD d)) H'
theorem flat_v {K : PySem.W.Frag} {H : Hp} {v : V} {d : PyData} (h : Dp K H v d) (f : flatD d = true) : flatV v = true := by
  cases h <;> first | rfl | cases f
theorem isS_v {K : PySem.W.Frag} {H : Hp} {v : V} {d : PyData} {s : Str} (h : Dp K H v d) (f : flatD d = true) : eqV (.str s) v = isS s d := by
  cases h with
  | str x =>
    show (s == x) = decide (x = s)
    by_cases e : x = s
    · subst e; simp
    · rw [decide_eq_false e]; exact beq_eq_false_iff_ne.mpr (fun q => e q.symm)
  | _ => first | rfl | cases f
section
variable {P : Program} {w : World} {K : PySem.W.Frag} {mg : Str → Option Value} {base : Heap}
theorem ok_is_side (T : Txt K mg) : FnOk P w K mg base CX0 1 T.f_is_side T.d_is_side ["value"] (sp_side K) := by
  refine T.F_is_side.ok sc_is_side (fun vs H Q E h => ?_) (fun cdv A outer s H vs Q E hr h => ?_)
  · obtain ⟨v, d, rfl, _⟩ := h; rfl
  · obtain ⟨v, d, rfl, hd, hf, k⟩ := h
    refine ⟨_, (pss_one (ps_ret (pe_cmpR op_in_seq (pv 0) (pe_glob (v := .ref T.a_SIDES) (by rfl) T.c_SIDES rfl) (by rfl)))), ?_⟩
    (dsimp only [cxOf, Cx.nox, Cx.wish, L2.start, List.map, List.length, List.replicate, List.cons_append, List.nil_append, List.append_eq, Nat.reduceSub, Nat.reduceAdd])
    walk_at "my_rd"
    refine q_inT T.k_SIDES.sq (flat_v hd hf) rfl ?_
    walk_at "my_rd"
    have e : inV v [.str "west", .str "east"] = sideD d := by
      show (eqV (.str "west") v || (eqV (.str "east") v || false)) = _
      rw [isS_v hd hf, isS_v hd hf, Bool.or_false]
      rfl
    rw [e]
    exact k H (Same.refl _)
end

/-! data made of tuples alone -/
mutual
inductive TupDp (K : PySem.W.Frag) (H : Hp) : V → PyData → Prop
  | non : TupDp K H .non .none
  | bl (b : Bool) : TupDp K H (.bl b) (.bool b)
  | int (i : Int) : TupDp K H (.int i) (.int i)
  | str (x : Str) : TupDp K H (.str x) (.str x)
  | tup {a : Addr} {xs : List V} {ds : List PyData} : H a = some (.tup xs) → TupAll K H xs ds → TupDp K H (.ref a) (.tuple ds)
inductive TupAll (K : PySem.W.Frag) (H : Hp) : List V → List PyData → Prop
  | nil : TupAll K H [] []
  | cons {v : V} {vs : List V} {d : PyData} {ds : List PyData} : TupDp K H v d → TupAll K H vs ds → TupAll K H (v :: vs) (d :: ds)
end
mutual
theorem TupDp.dp {K : PySem.W.Frag} {H : Hp} : ∀ {v : V} {d : PyData}, TupDp K H v d → Dp K H v d
  | _, _, .non => .non
  | _, _, .bl b => .bl b
  | _, _, .int i => .int i
  | _, _, .str x => .str x
  | _, _, .tup h1 h2 => .tup (sqT h1) (TupAll.dp h2)
theorem TupAll.dp {K : PySem.W.Frag} {H : Hp} : ∀ {vs : List V} {ds : List PyData}, TupAll K H vs ds → DpAll K H vs ds
  | _, _, .nil => .nil
  | _, _, .cons h1 h2 => .cons (TupDp.dp h1) (TupAll.dp h2)
end
mutual
theorem TupDp.mono {K : PySem.W.Frag} {H H' : Hp} (e : ∀ b ys, H b = some (.tup ys) → H' b = some (.tup ys)) : ∀ {v : V} {d : PyData}, TupDp K H v d → TupDp K H' v d
  | _, _, .non => .non
  | _, _, .bl b => .bl b
  | _, _, .int i => .int i
  | _, _, .str x => .str x
  | _, _, .tup h1 h2 => .tup (e _ _ h1) (TupAll.mono e h2)
theorem TupAll.mono {K : PySem.W.Frag} {H H' : Hp} (e : ∀ b ys, H b = some (.tup ys) → H' b = some (.tup ys)) : ∀ {vs : List V} {ds : List PyData}, TupAll K H vs ds → TupAll K H' vs ds
  | _, _, .nil => .nil
  | _, _, .cons h1 h2 => .cons (TupDp.mono e h1) (TupAll.mono e h2)
end
theorem Kp.tup {p l b : Addr} {ys : List V} {H H' : Hp} (k : Kp p H H') (pot : PotAt H p l) (h : H b = some (.tup ys)) : H' b = some (.tup ys) := by
  obtain ⟨ns, i, c, s, h1, _⟩ := pot
  exact k _ _ h (ne_of h h1 (by intro z; cases z))
theorem TupDp.kp {K : PySem.W.Frag} {H H' : Hp} {p l : Addr} {v : V} {d : PyData} (h : TupDp K H v d) (k : Kp p H H') (pot : PotAt H p l) : TupDp K H' v d := h.mono fun b ys q => k.tup pot q
theorem TupDp.same {K : PySem.W.Frag} {H H' : Hp} {v : V} {d : PyData} (h : TupDp K H v d) (k : Same H H') : TupDp K H' v d := h.mono fun b ys q => k _ _ q

local macro_rules | `(tactic| walk_at "my_rd") => `(tactic| (repeat first
  | with_reducible refine q_tCons ?_
  | ((with_reducible apply q_var); (focus (exact rfl)))
  | with_reducible refine q_c ?_
  | ((with_reducible apply q_nxE); (focus (with_reducible exact rfl)))
  | with_reducible refine q_bK ?_
  | with_reducible refine q_call ?_
  | with_reducible refine q_callK ?_
  | with_reducible refine q_tNil ?_
  | with_reducible refine q_cb ?_
  | with_reducible refine q_seq ?_
  | with_reducible refine q_asg ?_
  | with_reducible refine q_gName ?_
  | with_reducible refine q_op ?_
  | with_reducible refine q_test ?_
  | with_reducible refine q_tB ?_
  | with_reducible refine q_ifS ?_
  | with_reducible refine q_ret ?_
  | ((with_reducible apply q_rtE); (focus (with_reducible exact rfl)))
  | with_reducible refine q_next ?_
  | with_reducible refine q_ifF ?_
  | with_reducible refine q_ifT ?_
  | with_reducible refine q_drop ?_
  | with_reducible refine q_and ?_
  | with_reducible refine q_or ?_
  | with_reducible refine q_andT ?_
  | with_reducible refine q_andF ?_
  | with_reducible refine q_orF ?_
  | with_reducible refine q_orT ?_
  | with_reducible refine q_andV ?_
  | with_reducible refine q_andVT ?_
  | with_reducible refine q_andVF ?_
  | with_reducible refine q_orV ?_
  | with_reducible refine q_gCons ?_
  | with_reducible refine q_gNil ?_
  | with_reducible refine q_tup ?_
  | with_reducible refine q_lst ?_
  | with_reducible refine q_not ?_
  | with_reducible refine q_notKT ?_
  | with_reducible refine q_notKF ?_
  | with_reducible refine q_I0 ?_
  | with_reducible refine q_eqI ?_
  | with_reducible refine q_neI ?_
  | ((with_reducible refine q_I ?_ ?_); first | decide | omega | exact ⟨by omega, by omega⟩ | exact ⟨by decide, by decide⟩ | exact .inl ⟨by omega, by omega⟩ | exact .inr ⟨by omega, by omega⟩ | exact .inr ⟨by decide, by decide⟩)
  | with_reducible refine q_eqS ?_
  | with_reducible refine q_neS ?_
  | with_reducible refine q_brk ?_
  | with_reducible refine q_ct ?_
  | ((with_reducible apply q_bkE); (focus (with_reducible exact rfl)))
  | ((with_reducible apply q_cnE); (focus (with_reducible exact rfl)))
  | with_reducible refine q_retN ?_
  | with_reducible refine q_gSub ?_
  | with_reducible refine q_for ?_
  | with_reducible refine q_iList ?_
  | with_reducible refine q_iTup ?_
  | with_reducible refine q_iRng1 ?_
  | with_reducible refine q_notK ?_
  | with_reducible refine q_orVT ?_
  | with_reducible refine q_orVF ?_
  | with_reducible refine q_notV ?_
  | with_reducible refine q_notVK ?_
  | with_reducible refine q_ifE ?_
  | with_reducible refine q_ifET ?_
  | with_reducible refine q_ifEF ?_
  | with_reducible refine q_yes ?_
  | with_reducible refine q_un ?_
  | with_reducible refine q_rU ?_
  | with_reducible refine q_abs ?_
  | with_reducible refine q_int1 ?_
  | with_reducible refine q_bm ?_
  | with_reducible refine q_bm0 ?_
  | with_reducible refine q_lc ?_
  | with_reducible refine q_keepT ?_
  | with_reducible refine q_keepF ?_
  | ((with_reducible apply q_aug); (focus (exact rfl)))
  | with_reducible refine q_ipI ?_
  | with_reducible refine q_chain ?_
  | with_reducible refine q_pairC ?_
  | with_reducible refine q_pairsK ?_
  | with_reducible refine q_pairN ?_
  | with_reducible refine q_fld ?_
  | with_reducible refine q_sFld ?_
  | with_reducible refine q_meth ?_
  | with_reducible refine q_makeK ?_
  | with_reducible refine q_isBl ?_
  | with_reducible refine q_notBl ?_
  | with_reducible refine q_sl ?_
  | with_reducible refine q_noPart ?_
  | with_reducible refine q_part ?_
  | with_reducible refine q_partK ?_
  | ((with_reducible apply q_mulStr); (focus (decide +kernel)))
  | with_reducible refine q_chT ?_
  | with_reducible refine q_chF ?_
  | with_reducible refine q_ord ?_
  | with_reducible refine q_iStr0 ?_
  | with_reducible refine q_iStr ?_
  | with_reducible refine q_tDIn ?_
  | with_reducible refine q_tDNotIn ?_
  | with_reducible refine q_tDGet ?_
  | with_reducible refine q_tDGet2 ?_
  | with_reducible refine q_tDGet1 ?_
  | with_reducible refine q_tDSetd ?_
  | ((with_reducible apply q_dG2a); (focus ((repeat first | (with_reducible exact upd_same) | (with_reducible assumption) | (with_reducible apply upd_new (by assumption)) | (with_reducible apply upd_other (by first | assumption | exact Ne.symm (by assumption))) | (with_reducible refine' Kp.get (by assumption) ?_ (by first | assumption | exact Ne.symm (by assumption))) | (with_reducible apply Same.get (by assumption))); done)))
  | ((with_reducible apply q_dSda); (focus ((repeat first | (with_reducible exact upd_same) | (with_reducible assumption) | (with_reducible apply upd_new (by assumption)) | (with_reducible apply upd_other (by first | assumption | exact Ne.symm (by assumption))) | (with_reducible refine' Kp.get (by assumption) ?_ (by first | assumption | exact Ne.symm (by assumption))) | (with_reducible apply Same.get (by assumption))); done)))
  | with_reducible refine q_sDPut ?_
  | ((with_reducible apply q_dInS); (focus ((repeat first | (with_reducible exact upd_same) | (with_reducible assumption) | (with_reducible apply upd_new (by assumption)) | (with_reducible apply upd_other (by first | assumption | exact Ne.symm (by assumption))) | (with_reducible refine' Kp.get (by assumption) ?_ (by first | assumption | exact Ne.symm (by assumption))) | (with_reducible apply Same.get (by assumption))); done)))
  | ((with_reducible apply q_dNInS); (focus ((repeat first | (with_reducible exact upd_same) | (with_reducible assumption) | (with_reducible apply upd_new (by assumption)) | (with_reducible apply upd_other (by first | assumption | exact Ne.symm (by assumption))) | (with_reducible refine' Kp.get (by assumption) ?_ (by first | assumption | exact Ne.symm (by assumption))) | (with_reducible apply Same.get (by assumption))); done)))
  | ((with_reducible apply q_dInI); (focus ((repeat first | (with_reducible exact upd_same) | (with_reducible assumption) | (with_reducible apply upd_new (by assumption)) | (with_reducible apply upd_other (by first | assumption | exact Ne.symm (by assumption))) | (with_reducible refine' Kp.get (by assumption) ?_ (by first | assumption | exact Ne.symm (by assumption))) | (with_reducible apply Same.get (by assumption))); done)))
  | ((with_reducible apply q_dNInI); (focus ((repeat first | (with_reducible exact upd_same) | (with_reducible assumption) | (with_reducible apply upd_new (by assumption)) | (with_reducible apply upd_other (by first | assumption | exact Ne.symm (by assumption))) | (with_reducible refine' Kp.get (by assumption) ?_ (by first | assumption | exact Ne.symm (by assumption))) | (with_reducible apply Same.get (by assumption))); done)))
  | ((with_reducible apply q_bmL); (focus ((repeat first | (with_reducible exact upd_same) | (with_reducible assumption) | (with_reducible apply upd_new (by assumption)) | (with_reducible apply upd_other (by first | assumption | exact Ne.symm (by assumption))) | (with_reducible refine' Kp.get (by assumption) ?_ (by first | assumption | exact Ne.symm (by assumption))) | (with_reducible apply Same.get (by assumption))); done)))
  | ((with_reducible apply q_bmL0); (focus ((repeat first | (with_reducible exact upd_same) | (with_reducible assumption) | (with_reducible apply upd_new (by assumption)) | (with_reducible apply upd_other (by first | assumption | exact Ne.symm (by assumption))) | (with_reducible refine' Kp.get (by assumption) ?_ (by first | assumption | exact Ne.symm (by assumption))) | (with_reducible apply Same.get (by assumption))); done)))
  | ((with_reducible apply q_ixLt); (focus ((repeat first | (with_reducible exact upd_same) | (with_reducible assumption) | (with_reducible apply upd_new (by assumption)) | (with_reducible apply upd_other (by first | assumption | exact Ne.symm (by assumption))) | (with_reducible refine' Kp.get (by assumption) ?_ (by first | assumption | exact Ne.symm (by assumption))) | (with_reducible apply Same.get (by assumption))); done)); (focus (exact rfl)))
  | ((with_reducible apply q_ixTt); (focus ((repeat first | (with_reducible exact upd_same) | (with_reducible assumption) | (with_reducible apply upd_new (by assumption)) | (with_reducible apply upd_other (by first | assumption | exact Ne.symm (by assumption))) | (with_reducible refine' Kp.get (by assumption) ?_ (by first | assumption | exact Ne.symm (by assumption))) | (with_reducible apply Same.get (by assumption))); done)); (focus (exact rfl)))
  | ((with_reducible apply q_lenLt); (focus ((repeat first | (with_reducible exact upd_same) | (with_reducible assumption) | (with_reducible apply upd_new (by assumption)) | (with_reducible apply upd_other (by first | assumption | exact Ne.symm (by assumption))) | (with_reducible refine' Kp.get (by assumption) ?_ (by first | assumption | exact Ne.symm (by assumption))) | (with_reducible apply Same.get (by assumption))); done)))
  | ((with_reducible apply q_lenTt); (focus ((repeat first | (with_reducible exact upd_same) | (with_reducible assumption) | (with_reducible apply upd_new (by assumption)) | (with_reducible apply upd_other (by first | assumption | exact Ne.symm (by assumption))) | (with_reducible refine' Kp.get (by assumption) ?_ (by first | assumption | exact Ne.symm (by assumption))) | (with_reducible apply Same.get (by assumption))); done)))
  | ((with_reducible apply q_append); (focus ((repeat first | (with_reducible exact upd_same) | (with_reducible assumption) | (with_reducible apply upd_new (by assumption)) | (with_reducible apply upd_other (by first | assumption | exact Ne.symm (by assumption))) | (with_reducible refine' Kp.get (by assumption) ?_ (by first | assumption | exact Ne.symm (by assumption))) | (with_reducible apply Same.get (by assumption))); done)); (focus ((first | (exact Nat.lt_of_ble_eq_true rfl) | (simp only [List.length_append, List.length_cons, List.length_nil, List.length_map]; exact small1000 (by omega))))))
  | ((with_reducible apply q_setL); (focus ((repeat first | (with_reducible exact upd_same) | (with_reducible assumption) | (with_reducible apply upd_new (by assumption)) | (with_reducible apply upd_other (by first | assumption | exact Ne.symm (by assumption))) | (with_reducible refine' Kp.get (by assumption) ?_ (by first | assumption | exact Ne.symm (by assumption))) | (with_reducible apply Same.get (by assumption))); done)); (focus (exact rfl)))
  | with_reducible refine q_ifNT ?_
  | with_reducible refine q_ifNF ?_
  | with_reducible refine q_andNT ?_
  | with_reducible refine q_andNF ?_
  | with_reducible refine q_orNT ?_
  | with_reducible refine q_orNF ?_
  | with_reducible refine q_bKNT ?_
  | with_reducible refine q_bKNF ?_
  | with_reducible refine q_tNGet ?_
  | with_reducible refine q_tNIn ?_
  | with_reducible refine q_sNPut ?_
  | with_reducible refine q_sFldAug ?_
  | with_reducible refine q_sDAug ?_
  | with_reducible refine q_sDDel ?_
  | with_reducible refine q_forX ?_
  | with_reducible refine q_tMake ?_
  | ((with_reducible apply q_dG1a); (focus ((repeat first | (with_reducible exact upd_same) | (with_reducible assumption) | (with_reducible apply upd_new (by assumption)) | (with_reducible apply upd_other (by first | assumption | exact Ne.symm (by assumption))) | (with_reducible refine' Kp.get (by assumption) ?_ (by first | assumption | exact Ne.symm (by assumption))) | (with_reducible apply Same.get (by assumption))); done)))))
/-! configurations -/
structure TokR where
  name : Str
  home : Str
  scale : Int
  limit : Int
  large : Int
def TokR.v (t : TokR) : List V := [.str t.name, .str t.home, .int t.scale, .int t.limit, .int t.large]
structure TokR.Ok (t : TokR) : Prop where
  n : shortD 12 (.str t.name) = true
  nl : t.name.length ≤ 12
  h : sideD (.str t.home) = true
  sc : 1 ≤ t.scale
  li : 0 ≤ t.limit
  la : 1 ≤ t.large
structure BalR where
  acc : Str
  tok : Str
  amt : Int
def BalR.v (b : BalR) : List V := [.str b.acc, .str b.tok, .int b.amt]
structure BalR.Ok (b : BalR) (ts : List TokR) : Prop where
  a : accD (.str b.acc) = true
  al : b.acc.length ≤ 20
  t : shortD 12 (.str b.tok) = true
  tl : b.tok.length ≤ 12
  tm : b.tok ∈ ts.map TokR.name
  am : 0 ≤ b.amt
/-- rows that stand as tuples -/
structure RowsAt {α : Type} (f : α → List V) (H : Hp) (xs : List V) (rs : List α) : Prop where
  len : xs.length = rs.length
  at_ : ∀ (i : Nat) (r : α), rs[i]? = some r → ∃ a, xs[i]? = some (.ref a) ∧ H a = some (.tup (f r))
theorem RowsAt.mono {α : Type} {f : α → List V} {H H' : Hp} {xs : List V} {rs : List α} (h : RowsAt f H xs rs) (e : ∀ b ys, H b = some (.tup ys) → H' b = some (.tup ys)) : RowsAt f H' xs rs :=
  ⟨h.len, fun i r hr => by obtain ⟨a, h1, h2⟩ := h.at_ i r hr; exact ⟨a, h1, e _ _ h2⟩⟩
theorem RowsAt.same {α : Type} {f : α → List V} {H H' : Hp} {xs : List V} {rs : List α} (h : RowsAt f H xs rs) (e : Same H H') : RowsAt f H' xs rs := h.mono fun b ys q => e b _ q
theorem RowsAt.item {α : Type} {f : α → List V} {H : Hp} {xs : List V} {rs : List α} (h : RowsAt f H xs rs) {i : Nat} {x : V} (hx : xs[i]? = some x) : ∃ r a, rs[i]? = some r ∧ x = .ref a ∧ H a = some (.tup (f r)) := by
  have hi : i < rs.length := by rw [← h.len]; exact (List.getElem?_eq_some_iff.mp hx).1
  obtain ⟨a, h1, h2⟩ := h.at_ i rs[i] (List.getElem?_eq_getElem hi)
  exact ⟨rs[i], a, List.getElem?_eq_getElem hi, Option.some.inj (hx.symm.trans h1), h2⟩
theorem RowsAt.nil {α : Type} {f : α → List V} {H : Hp} : RowsAt f H [] [] := ⟨rfl, fun i r h => by simp at h⟩
theorem RowsAt.snoc {α : Type} {f : α → List V} {H : Hp} {xs : List V} {rs : List α} {a : Addr} {r : α} (h : RowsAt f H xs rs) (ha : H a = some (.tup (f r))) : RowsAt f H (xs ++ [.ref a]) (rs ++ [r]) := by
  refine ⟨by rw [List.length_append, List.length_append, h.len]; rfl, fun i g' hg => ?_⟩
  by_cases hi : i < rs.length
  · rw [List.getElem?_append_left hi] at hg
    rw [List.getElem?_append_left (by rw [h.len]; exact hi)]
    exact h.at_ i g' hg
  · have hi' : i = rs.length := by
      have := (List.getElem?_eq_some_iff.mp hg).1
      rw [List.length_append] at this
      simp at this
      omega
    subst hi'
    rw [List.getElem?_append_right (Nat.le_refl _)] at hg
    simp at hg
    subst hg
    refine ⟨a, ?_, ha⟩
    rw [List.getElem?_append_right (by rw [h.len]; exact Nat.le_refl _), h.len]
    simp
/-- the table of the tokens: name and row -/
structure TabAt (H : Hp) (kvs : List (Key × V)) (ts : List TokR) : Prop where
  keys : kvs.map (·.1) = (ts.map TokR.name).map Sum.inr
  at_ : ∀ t ∈ ts, ∃ r, valV kvs (Sum.inr t.name) = some (.ref r) ∧ H r = some (.tup t.v)
theorem TabAt.mono {H H' : Hp} {kvs : List (Key × V)} {ts : List TokR} (h : TabAt H kvs ts) (e : ∀ b ys, H b = some (.tup ys) → H' b = some (.tup ys)) : TabAt H' kvs ts :=
  ⟨h.keys, fun t ht => by obtain ⟨r, h1, h2⟩ := h.at_ t ht; exact ⟨r, h1, e _ _ h2⟩⟩
theorem TabAt.has {H : Hp} {kvs : List (Key × V)} {ts : List TokR} (h : TabAt H kvs ts) (s : Str) : (valV kvs (Sum.inr s)).isSome = decide (s ∈ ts.map TokR.name) := by
  cases hv : valV kvs (Sum.inr s) with
  | none =>
    have q := valV_not hv
    rw [mem_names _ h.keys] at q
    exact (decide_eq_false q).symm
  | some _ =>
    have q := valV_in hv
    rw [mem_names _ h.keys] at q
    exact (decide_eq_true q).symm
theorem TabAt.len {H : Hp} {kvs : List (Key × V)} {ts : List TokR} (h : TabAt H kvs ts) : kvs.length = ts.length := by
  have := congrArg List.length h.keys
  simpa using this
/-- what a configuration is made of -/
structure Parts where
  toks : List TokR
  bals : List BalR
  depth : Int
  window : Int
  delay : Int
  bundle : Int
structure Parts.Ok (c : Parts) : Prop where
  t : ∀ t ∈ c.toks, t.Ok
  tn : (c.toks.map TokR.name).Nodup
  tl : c.toks.length ≤ 1000
  b : ∀ b ∈ c.bals, b.Ok c.toks
  bl : c.bals.length ≤ 1000
  d : 1 ≤ c.depth
  w : 1 ≤ c.window
  y : 0 ≤ c.delay
  u : 1 ≤ c.bundle
  u8 : c.bundle ≤ 8
def cfgNames : List Str := ["_tokens", "_balances", "_guards", "_depth", "_window", "_delay", "_bundle"]
/-- a Config at x: its table td, its list of balances bl, its guards g -/
structure CfgAt (C : Addr) (c : Parts) (g : Addr) (H : Hp) (x : Addr) : Prop where
  ex : ∃ dx fs td bl kvs bv, H x = some (.ins C dx fs) ∧ fs.lookup ("_tokens" : Str) = some (.ref td) ∧ fs.lookup ("_balances" : Str) = some (.ref bl) ∧ fs.lookup ("_guards" : Str) = some (.ref g) ∧ fs.lookup ("_depth" : Str) = some (.int c.depth) ∧ fs.lookup ("_window" : Str) = some (.int c.window) ∧
    fs.lookup ("_delay" : Str) = some (.int c.delay) ∧ fs.lookup ("_bundle" : Str) = some (.int c.bundle) ∧ (∀ m : Str, m ∉ cfgNames → fs.lookup m = none) ∧ H td = some (.dK kvs) ∧ TabAt H kvs c.toks ∧ H bl = some (.lst bv) ∧ RowsAt BalR.v H bv c.bals
theorem CfgAt.same {C : Addr} {c : Parts} {g : Addr} {H H' : Hp} {x : Addr} (h : CfgAt C c g H x) (e : Same H H') : CfgAt C c g H' x := by
  obtain ⟨dx, fs, td, bl, kvs, bv, h1, h2, h3, h4, h5, h6, h7, h8, h9, h10, h11, h12, h13⟩ := h.ex
  exact ⟨dx, fs, td, bl, kvs, bv, e _ _ h1, h2, h3, h4, h5, h6, h7, h8, h9, e _ _ h10, h11.mono fun b ys q => e _ _ q, e _ _ h12, h13.same e⟩
def sp_check_list (K : PySem.W.Frag) : Sp := fun vs H Q _ => ∃ (n : Str) (a : Addr) (xs : List V), vs = [.str n, .ref a] ∧ SqL K H a xs ∧ ∀ H', Same H H' → Q .non H'
def sp_check_least : Sp := fun vs H Q _ => ∃ (n : Str) (i l : Int), vs = [.str n, .int i, .int l] ∧ l ≤ i ∧ ∀ H', Same H H' → Q .non H'
def sp_check_tok : Sp := fun vs H Q _ => ∃ (a : Addr) (t : TokR), vs = [.ref a] ∧ H a = some (.tup t.v) ∧ t.Ok ∧ ∀ H', Same H H' → Q .non H'
def sp_check_bal : Sp := fun vs H Q _ => ∃ (a d : Addr) (b : BalR) (kvs : List (Key × V)) (ts : List TokR), vs = [.ref a, .ref d] ∧ H a = some (.tup b.v) ∧ H d = some (.dK kvs) ∧ TabAt H kvs ts ∧ b.Ok ts ∧ ∀ H', Same H H' → Q .non H'
def sp_cfg (K : PySem.W.Frag) (C : Addr) : Sp := fun vs H Q _ => ∃ (x dx tl bl g : Addr) (tv bv : List V) (gd : PyData) (c : Parts), vs = [.ref x, .ref tl, .ref bl, .ref g, .int c.depth, .int c.window, .int c.delay, .int c.bundle] ∧
  H x = some (.ins C dx []) ∧ H tl = some (.lst tv) ∧ H bl = some (.lst bv) ∧ RowsAt TokR.v H tv c.toks ∧ RowsAt BalR.v H bv c.bals ∧ TupDp K H (.ref g) gd ∧ setD gd = true ∧ FineS gd ∧ c.Ok ∧
  ∀ H', CfgAt C c g H' x → Kp x H H' → Q .non H'
section
variable {P : Program} {w : World} {K : PySem.W.Frag} {mg : Str → Option Value} {base : Heap}
theorem ty_list {H : Hp} {a : Addr} {xs : List V} (h : SqL K H a xs) : TyX K H (.ref a) (.type "list") := by
  rcases h with (h | ⟨o, h⟩) | ⟨o, its, n, h, h3, _⟩
  · exact .base (.lst h)
  · exact .base (.frz h)
  · exact .kList h h3
theorem ok_check_list (T : Txt K mg) : FnOk P w K mg base CX0 1 T.f_check_list T.d_check_list ["name", "value"] (sp_check_list K) := by
  refine T.F_check_list.ok sc_check_list (fun vs H Q E h => ?_) (fun cdv A outer s H vs Q E hr h => ?_)
  · obtain ⟨n, a, xs, rfl, _⟩ := h; rfl
  · obtain ⟨n, a, xs, rfl, ha, k⟩ := h
    refine ⟨_, (pss_one (ps_if (pt_not (pt_val (pe_callB call_isi (by rfl) T.z_isinstance boot_isinstance (pa_cons (pv 1) (pa_cons (pe_bltn (v := .ty "list") (by rfl) T.z_list boot_list rfl) pa_nil))))) (pss_one ps_never) pss_nil)), ?_⟩
    (dsimp only [cxOf, Cx.nox, Cx.wish, L2.start, List.map, List.length, List.replicate, List.cons_append, List.nil_append, List.append_eq, Nat.reduceSub, Nat.reduceAdd])
    walk_at "my_rd"
    refine q_isi (c := true) (ty_list ha) (kit_ty (by decide +kernel)) ?_
    walk_at "my_rd"
    exact k H (Same.refl _)
theorem ok_check_least (T : Txt K mg) : FnOk P w K mg base CX0 3 T.f_check_least T.d_check_least ["name", "value", "least"] sp_check_least := by
  refine T.F_check_least.ok sc_check_least (fun vs H Q E h => ?_) (fun cdv A outer s H vs Q E hr h => ?_)
  · obtain ⟨n, i, l, rfl, _⟩ := h; rfl
  · obtain ⟨n, i, l, rfl, hl, k⟩ := h
    refine ⟨_, (pss_one (ps_if (pt_not (pt_val (pe_call (ok_is_at_least T) (hr.mono (by decide)) (by rfl) T.g_is_at_least T.F_is_at_least.kp T.b_is_at_least .nil pass0 (pa_cons (pv 1) (pa_cons (pv 2) pa_nil))))) (pss_one ps_never) pss_nil)), ?_⟩
    (dsimp only [cxOf, Cx.nox, Cx.wish, L2.start, List.map, List.length, List.replicate, List.cons_append, List.nil_append, List.append_eq, Nat.reduceSub, Nat.reduceAdd])
    walk_at "my_rd"
    refine ⟨.int i, .int i, l, rfl, .int i, trivial, fun H1 sm => ?_⟩
    rw [show leastD l (.int i) = true from decide_eq_true hl]
    walk_at "my_rd"
    exact k H1 sm
theorem ok_check_token_row (T : Txt K mg) : FnOk P w K mg base CX0 4 T.f_check_token_row T.d_check_token_row ["row"] sp_check_tok := by
  refine T.F_check_token_row.ok sc_check_token_row (fun vs H Q E h => ?_) (fun cdv A outer s H vs Q E hr h => ?_)
  · obtain ⟨a, t, rfl, _⟩ := h; rfl
  · obtain ⟨a, t, rfl, ha, ht, k⟩ := h
    have hd : Dp K H (.ref a) (.tuple [.str t.name, .str t.home, .int t.scale, .int t.limit, .int t.large]) := .tup (sqT ha) (.cons (.str _) (.cons (.str _) (.cons (.int _) (.cons (.int _) (.cons (.int _) .nil)))))
    refine ⟨_, (pss_cons (ps_if (PW.pt (pw_or (pt_not (pt_val (pe_callB call_isi (by rfl) T.z_isinstance boot_isinstance (pa_cons (pv 0) (pa_cons (pe_bltn (v := .ty "tuple") (by rfl) T.z_tuple boot_tuple rfl) pa_nil))))) (pw_or1 (pt_cmpR op_ne (pe_callB cq_len (by rfl) T.z_len boot_len (pa_cons (pv 0) pa_nil)) pe_int (nomark _))))) (pss_one ps_never) pss_nil)
      (pss_cons (ps_asg (pv 0) (pg_tup rfl (pgs_cons (pg_name (i := 1) sc_check_token_row.nd rfl (Or.inl rfl)) (pgs_cons (pg_name (i := 2) sc_check_token_row.nd rfl (Or.inl rfl)) (pgs_cons (pg_name (i := 3) sc_check_token_row.nd rfl (Or.inl rfl)) (pgs_cons (pg_name (i := 4) sc_check_token_row.nd rfl (Or.inl rfl)) (pgs_cons (pg_name (i := 5) sc_check_token_row.nd rfl (Or.inl rfl)) pgs_nil)))))))
      (pss_cons (ps_if (pt_not (pt_val (pe_call (ok_is_short_text T) (hr.mono (by decide)) (by rfl) T.g_is_short_text T.F_is_short_text.kp T.b_is_short_text .nil pass0 (pa_cons (pv 1) (pa_cons (pe_glob (v := .int 12) (by rfl) T.c_TOKEN_LENGTH ⟨_, rfl⟩) pa_nil))))) (pss_one ps_never) pss_nil)
      (pss_cons (ps_if (pt_not (pt_val (pe_call (ok_is_side T) (hr.mono (by decide)) (by rfl) T.g_is_side T.F_is_side.kp T.b_is_side .nil pass0 (pa_cons (pv 2) pa_nil)))) (pss_one ps_never) pss_nil)
      (pss_cons (ps_expr (pe_call (ok_check_least T) (hr.mono (by decide)) (by rfl) T.g_check_least T.F_check_least.kp T.b_check_least .nil pass0 (pa_cons pe_str (pa_cons (pv 3) (pa_cons pe_int pa_nil)))))
      (pss_cons (ps_expr (pe_call (ok_check_least T) (hr.mono (by decide)) (by rfl) T.g_check_least T.F_check_least.kp T.b_check_least .nil pass0 (pa_cons pe_str (pa_cons (pv 4) (pa_cons pe_int pa_nil)))))
      (pss_one (ps_expr (pe_call (ok_check_least T) (hr.mono (by decide)) (by rfl) T.g_check_least T.F_check_least.kp T.b_check_least .nil pass0 (pa_cons pe_str (pa_cons (pv 5) (pa_cons pe_int pa_nil)))))))))))), ?_⟩
    (dsimp only [cxOf, Cx.nox, Cx.wish, L2.start, List.map, List.length, List.replicate, List.cons_append, List.nil_append, List.append_eq, Nat.reduceSub, Nat.reduceAdd])
    walk_at "my_rd"
    refine q_isiD hd (kit_tuple _) ?_
    show bK _ (.bl true) H
    walk_at "my_rd"
    rw [show decide ((t.v.length : Int) = 5) = true from rfl]
    walk_at "my_rd"
    refine q_gTup (sqT ha) rfl ?_
    unfold TokR.v
    walk_at "my_rd"
    refine ⟨.str t.name, .str t.name, 12, rfl, .str _, by show t.name.length ≤ 100000; have := ht.nl; omega, fun H1 sm1 => ?_⟩
    rw [ht.n]
    walk_at "my_rd"
    refine ⟨.str t.home, .str t.home, rfl, .str _, rfl, fun H2 sm2 => ?_⟩
    rw [ht.h]
    walk_at "my_rd"
    refine ⟨_, t.scale, 1, rfl, ht.sc, fun H3 sm3 => ?_⟩
    walk_at "my_rd"
    refine ⟨_, t.limit, 0, rfl, ht.li, fun H4 sm4 => ?_⟩
    walk_at "my_rd"
    refine ⟨_, t.large, 1, rfl, ht.la, fun H5 sm5 => ?_⟩
    walk_at "my_rd"
    exact k H5 (Same.trans sm1 (Same.trans sm2 (Same.trans sm3 (Same.trans sm4 sm5))))
theorem ok_check_balance_row (T : Txt K mg) : FnOk P w K mg base CX0 4 T.f_check_balance_row T.d_check_balance_row ["row", "tokens"] sp_check_bal := by
  refine T.F_check_balance_row.ok sc_check_balance_row (fun vs H Q E h => ?_) (fun cdv A outer s H vs Q E hr h => ?_)
  · obtain ⟨a, d, b, kvs, ts, rfl, _⟩ := h; rfl
  · obtain ⟨a, d, b, kvs, ts, rfl, ha, hdd, hT, hb, k⟩ := h
    have hu := hu_of hr
    have hd : Dp K H (.ref a) (.tuple [.str b.acc, .str b.tok, .int b.amt]) := .tup (sqT ha) (.cons (.str _) (.cons (.str _) (.cons (.int _) .nil)))
    refine ⟨_, (pss_cons (ps_if (PW.pt (pw_or (pt_not (pt_val (pe_callB call_isi (by rfl) T.z_isinstance boot_isinstance (pa_cons (pv 0) (pa_cons (pe_bltn (v := .ty "tuple") (by rfl) T.z_tuple boot_tuple rfl) pa_nil))))) (pw_or1 (pt_cmpR op_ne (pe_callB cq_len (by rfl) T.z_len boot_len (pa_cons (pv 0) pa_nil)) pe_int (nomark _))))) (pss_one ps_never) pss_nil)
      (pss_cons (ps_asg (pv 0) (pg_tup rfl (pgs_cons (pg_name (i := 2) sc_check_balance_row.nd rfl (Or.inl rfl)) (pgs_cons (pg_name (i := 3) sc_check_balance_row.nd rfl (Or.inl rfl)) (pgs_cons (pg_name (i := 4) sc_check_balance_row.nd rfl (Or.inl rfl)) pgs_nil)))))
      (pss_cons (ps_if (pt_not (pt_val (pe_call (ok_is_account T) (hr.mono (by decide)) (by rfl) T.g_is_account T.F_is_account.kp T.b_is_account .nil pass0 (pa_cons (pv 2) pa_nil)))) (pss_one ps_never) pss_nil)
      (pss_cons (ps_if (PW.pt (pw_or (pt_not (pt_val (pe_call (ok_is_short_text T) (hr.mono (by decide)) (by rfl) T.g_is_short_text T.F_is_short_text.kp T.b_is_short_text .nil pass0 (pa_cons (pv 3) (pa_cons (pe_glob (v := .int 12) (by rfl) T.c_TOKEN_LENGTH ⟨_, rfl⟩) pa_nil))))) (pw_or1 (pt_cmp (pc_dnotin hu (pv 3) (pv 1)))))) (pss_one ps_never) pss_nil)
      (pss_one (ps_expr (pe_call (ok_check_least T) (hr.mono (by decide)) (by rfl) T.g_check_least T.F_check_least.kp T.b_check_least .nil pass0 (pa_cons pe_str (pa_cons (pv 4) (pa_cons pe_int pa_nil)))))))))), ?_⟩
    (dsimp only [cxOf, Cx.nox, Cx.wish, L2.start, List.map, List.length, List.replicate, List.cons_append, List.nil_append, List.append_eq, Nat.reduceSub, Nat.reduceAdd])
    walk_at "my_rd"
    refine q_isiD hd (kit_tuple _) ?_
    show bK _ (.bl true) H
    walk_at "my_rd"
    rw [show decide ((b.v.length : Int) = 3) = true from rfl]
    walk_at "my_rd"
    refine q_gTup (sqT ha) rfl ?_
    unfold BalR.v
    walk_at "my_rd"
    refine ⟨.str b.acc, .str b.acc, rfl, .str _, by show b.acc.length ≤ 100000; have := hb.al; omega, fun H1 sm1 => ?_⟩
    rw [hb.a]
    walk_at "my_rd"
    refine ⟨.str b.tok, .str b.tok, 12, rfl, .str _, by show b.tok.length ≤ 100000; have := hb.tl; omega, fun H2 sm2 => ?_⟩
    rw [hb.t]
    have sm := Same.trans sm1 sm2
    walk_at "my_rd"
    rw [hT.has, decide_eq_true hb.tm]
    walk_at "my_rd"
    refine ⟨_, b.amt, 0, rfl, hb.am, fun H3 sm3 => ?_⟩
    walk_at "my_rd"
    exact k H3 (Same.trans sm sm3)
end

local macro_rules | `(tactic| walk_at "my_rd") => `(tactic| (repeat first
  | with_reducible refine q_tCons ?_
  | ((with_reducible apply q_var); (focus (exact rfl)))
  | with_reducible refine q_c ?_
  | ((with_reducible apply q_nxE); (focus (with_reducible exact rfl)))
  | with_reducible refine q_bK ?_
  | with_reducible refine q_call ?_
  | with_reducible refine q_callK ?_
  | with_reducible refine q_tNil ?_
  | with_reducible refine q_cb ?_
  | with_reducible refine q_seq ?_
  | with_reducible refine q_asg ?_
  | with_reducible refine q_gName ?_
  | with_reducible refine q_op ?_
  | with_reducible refine q_test ?_
  | with_reducible refine q_tB ?_
  | with_reducible refine q_ifS ?_
  | with_reducible refine q_ret ?_
  | ((with_reducible apply q_rtE); (focus (with_reducible exact rfl)))
  | with_reducible refine q_next ?_
  | with_reducible refine q_ifF ?_
  | with_reducible refine q_ifT ?_
  | with_reducible refine q_drop ?_
  | with_reducible refine q_and ?_
  | with_reducible refine q_or ?_
  | with_reducible refine q_andT ?_
  | with_reducible refine q_andF ?_
  | with_reducible refine q_orF ?_
  | with_reducible refine q_orT ?_
  | with_reducible refine q_andV ?_
  | with_reducible refine q_andVT ?_
  | with_reducible refine q_andVF ?_
  | with_reducible refine q_orV ?_
  | with_reducible refine q_gCons ?_
  | with_reducible refine q_gNil ?_
  | with_reducible refine q_tup ?_
  | with_reducible refine q_lst ?_
  | with_reducible refine q_not ?_
  | with_reducible refine q_notKT ?_
  | with_reducible refine q_notKF ?_
  | with_reducible refine q_I0 ?_
  | with_reducible refine q_eqI ?_
  | with_reducible refine q_neI ?_
  | ((with_reducible refine q_I ?_ ?_); first | decide | omega | exact ⟨by omega, by omega⟩ | exact ⟨by decide, by decide⟩ | exact .inl ⟨by omega, by omega⟩ | exact .inr ⟨by omega, by omega⟩ | exact .inr ⟨by decide, by decide⟩)
  | with_reducible refine q_eqS ?_
  | with_reducible refine q_neS ?_
  | with_reducible refine q_brk ?_
  | with_reducible refine q_ct ?_
  | ((with_reducible apply q_bkE); (focus (with_reducible exact rfl)))
  | ((with_reducible apply q_cnE); (focus (with_reducible exact rfl)))
  | with_reducible refine q_retN ?_
  | with_reducible refine q_gSub ?_
  | with_reducible refine q_for ?_
  | with_reducible refine q_iList ?_
  | with_reducible refine q_iTup ?_
  | with_reducible refine q_iRng1 ?_
  | with_reducible refine q_notK ?_
  | with_reducible refine q_orVT ?_
  | with_reducible refine q_orVF ?_
  | with_reducible refine q_notV ?_
  | with_reducible refine q_notVK ?_
  | with_reducible refine q_ifE ?_
  | with_reducible refine q_ifET ?_
  | with_reducible refine q_ifEF ?_
  | with_reducible refine q_yes ?_
  | with_reducible refine q_un ?_
  | with_reducible refine q_rU ?_
  | with_reducible refine q_abs ?_
  | with_reducible refine q_int1 ?_
  | with_reducible refine q_bm ?_
  | with_reducible refine q_bm0 ?_
  | with_reducible refine q_lc ?_
  | with_reducible refine q_keepT ?_
  | with_reducible refine q_keepF ?_
  | ((with_reducible apply q_aug); (focus (exact rfl)))
  | with_reducible refine q_ipI ?_
  | with_reducible refine q_chain ?_
  | with_reducible refine q_pairC ?_
  | with_reducible refine q_pairsK ?_
  | with_reducible refine q_pairN ?_
  | with_reducible refine q_fld ?_
  | with_reducible refine q_sFld ?_
  | with_reducible refine q_meth ?_
  | with_reducible refine q_makeK ?_
  | with_reducible refine q_isBl ?_
  | with_reducible refine q_notBl ?_
  | with_reducible refine q_sl ?_
  | with_reducible refine q_noPart ?_
  | with_reducible refine q_part ?_
  | with_reducible refine q_partK ?_
  | ((with_reducible apply q_mulStr); (focus (decide +kernel)))
  | with_reducible refine q_chT ?_
  | with_reducible refine q_chF ?_
  | with_reducible refine q_ord ?_
  | with_reducible refine q_iStr0 ?_
  | with_reducible refine q_iStr ?_
  | with_reducible refine q_tDIn ?_
  | with_reducible refine q_tDNotIn ?_
  | with_reducible refine q_tDGet ?_
  | with_reducible refine q_tDGet2 ?_
  | with_reducible refine q_tDGet1 ?_
  | with_reducible refine q_tDSetd ?_
  | ((with_reducible apply q_dG2a); (focus ((repeat first | (with_reducible exact upd_same) | (with_reducible assumption) | (with_reducible apply upd_new (by assumption)) | (with_reducible apply upd_other (by first | assumption | exact Ne.symm (by assumption))) | (with_reducible refine' Kp.get (by assumption) ?_ (by first | assumption | exact Ne.symm (by assumption))) | (with_reducible apply Same.get (by assumption))); done)))
  | ((with_reducible apply q_dSda); (focus ((repeat first | (with_reducible exact upd_same) | (with_reducible assumption) | (with_reducible apply upd_new (by assumption)) | (with_reducible apply upd_other (by first | assumption | exact Ne.symm (by assumption))) | (with_reducible refine' Kp.get (by assumption) ?_ (by first | assumption | exact Ne.symm (by assumption))) | (with_reducible apply Same.get (by assumption))); done)))
  | with_reducible refine q_sDPut ?_
  | ((with_reducible apply q_dInS); (focus ((repeat first | (with_reducible exact upd_same) | (with_reducible assumption) | (with_reducible apply upd_new (by assumption)) | (with_reducible apply upd_other (by first | assumption | exact Ne.symm (by assumption))) | (with_reducible refine' Kp.get (by assumption) ?_ (by first | assumption | exact Ne.symm (by assumption))) | (with_reducible apply Same.get (by assumption))); done)))
  | ((with_reducible apply q_dNInS); (focus ((repeat first | (with_reducible exact upd_same) | (with_reducible assumption) | (with_reducible apply upd_new (by assumption)) | (with_reducible apply upd_other (by first | assumption | exact Ne.symm (by assumption))) | (with_reducible refine' Kp.get (by assumption) ?_ (by first | assumption | exact Ne.symm (by assumption))) | (with_reducible apply Same.get (by assumption))); done)))
  | ((with_reducible apply q_dInI); (focus ((repeat first | (with_reducible exact upd_same) | (with_reducible assumption) | (with_reducible apply upd_new (by assumption)) | (with_reducible apply upd_other (by first | assumption | exact Ne.symm (by assumption))) | (with_reducible refine' Kp.get (by assumption) ?_ (by first | assumption | exact Ne.symm (by assumption))) | (with_reducible apply Same.get (by assumption))); done)))
  | ((with_reducible apply q_dNInI); (focus ((repeat first | (with_reducible exact upd_same) | (with_reducible assumption) | (with_reducible apply upd_new (by assumption)) | (with_reducible apply upd_other (by first | assumption | exact Ne.symm (by assumption))) | (with_reducible refine' Kp.get (by assumption) ?_ (by first | assumption | exact Ne.symm (by assumption))) | (with_reducible apply Same.get (by assumption))); done)))
  | ((with_reducible apply q_bmL); (focus ((repeat first | (with_reducible exact upd_same) | (with_reducible assumption) | (with_reducible apply upd_new (by assumption)) | (with_reducible apply upd_other (by first | assumption | exact Ne.symm (by assumption))) | (with_reducible refine' Kp.get (by assumption) ?_ (by first | assumption | exact Ne.symm (by assumption))) | (with_reducible apply Same.get (by assumption))); done)))
  | ((with_reducible apply q_bmL0); (focus ((repeat first | (with_reducible exact upd_same) | (with_reducible assumption) | (with_reducible apply upd_new (by assumption)) | (with_reducible apply upd_other (by first | assumption | exact Ne.symm (by assumption))) | (with_reducible refine' Kp.get (by assumption) ?_ (by first | assumption | exact Ne.symm (by assumption))) | (with_reducible apply Same.get (by assumption))); done)))
  | ((with_reducible apply q_ixLt); (focus ((repeat first | (with_reducible exact upd_same) | (with_reducible assumption) | (with_reducible apply upd_new (by assumption)) | (with_reducible apply upd_other (by first | assumption | exact Ne.symm (by assumption))) | (with_reducible refine' Kp.get (by assumption) ?_ (by first | assumption | exact Ne.symm (by assumption))) | (with_reducible apply Same.get (by assumption))); done)); (focus (exact rfl)))
  | ((with_reducible apply q_ixTt); (focus ((repeat first | (with_reducible exact upd_same) | (with_reducible assumption) | (with_reducible apply upd_new (by assumption)) | (with_reducible apply upd_other (by first | assumption | exact Ne.symm (by assumption))) | (with_reducible refine' Kp.get (by assumption) ?_ (by first | assumption | exact Ne.symm (by assumption))) | (with_reducible apply Same.get (by assumption))); done)); (focus (exact rfl)))
  | ((with_reducible apply q_lenLt); (focus ((repeat first | (with_reducible exact upd_same) | (with_reducible assumption) | (with_reducible apply upd_new (by assumption)) | (with_reducible apply upd_other (by first | assumption | exact Ne.symm (by assumption))) | (with_reducible refine' Kp.get (by assumption) ?_ (by first | assumption | exact Ne.symm (by assumption))) | (with_reducible apply Same.get (by assumption))); done)))
  | ((with_reducible apply q_lenTt); (focus ((repeat first | (with_reducible exact upd_same) | (with_reducible assumption) | (with_reducible apply upd_new (by assumption)) | (with_reducible apply upd_other (by first | assumption | exact Ne.symm (by assumption))) | (with_reducible refine' Kp.get (by assumption) ?_ (by first | assumption | exact Ne.symm (by assumption))) | (with_reducible apply Same.get (by assumption))); done)))
  | ((with_reducible apply q_append); (focus ((repeat first | (with_reducible exact upd_same) | (with_reducible assumption) | (with_reducible apply upd_new (by assumption)) | (with_reducible apply upd_other (by first | assumption | exact Ne.symm (by assumption))) | (with_reducible refine' Kp.get (by assumption) ?_ (by first | assumption | exact Ne.symm (by assumption))) | (with_reducible apply Same.get (by assumption))); done)); (focus ((first | (exact Nat.lt_of_ble_eq_true rfl) | (simp only [List.length_append, List.length_cons, List.length_nil, List.length_map]; exact small1000 (by omega))))))
  | ((with_reducible apply q_setL); (focus ((repeat first | (with_reducible exact upd_same) | (with_reducible assumption) | (with_reducible apply upd_new (by assumption)) | (with_reducible apply upd_other (by first | assumption | exact Ne.symm (by assumption))) | (with_reducible refine' Kp.get (by assumption) ?_ (by first | assumption | exact Ne.symm (by assumption))) | (with_reducible apply Same.get (by assumption))); done)); (focus (exact rfl)))
  | with_reducible refine q_ifNT ?_
  | with_reducible refine q_ifNF ?_
  | with_reducible refine q_andNT ?_
  | with_reducible refine q_andNF ?_
  | with_reducible refine q_orNT ?_
  | with_reducible refine q_orNF ?_
  | with_reducible refine q_bKNT ?_
  | with_reducible refine q_bKNF ?_
  | with_reducible refine q_tNGet ?_
  | with_reducible refine q_tNIn ?_
  | with_reducible refine q_sNPut ?_
  | with_reducible refine q_sFldAug ?_
  | with_reducible refine q_sDAug ?_
  | with_reducible refine q_sDDel ?_
  | with_reducible refine q_forX ?_
  | with_reducible refine q_tMake ?_
  | ((with_reducible apply q_dG1a); (focus ((repeat first | (with_reducible exact upd_same) | (with_reducible assumption) | (with_reducible apply upd_new (by assumption)) | (with_reducible apply upd_other (by first | assumption | exact Ne.symm (by assumption))) | (with_reducible refine' Kp.get (by assumption) ?_ (by first | assumption | exact Ne.symm (by assumption))) | (with_reducible apply Same.get (by assumption))); done)))))
theorem RowsAt.kp {α : Type} {f : α → List V} {H H' : Hp} {xs : List V} {rs : List α} {x C dx : Addr} {fs : List (Str × V)} (h : RowsAt f H xs rs) (hx : H x = some (.ins C dx fs)) (k : Kp x H H') : RowsAt f H' xs rs :=
  h.mono fun b ys q => k _ _ q (ne_of q hx (by intro z; cases z))
theorem valV_put {kvs : List (Key × V)} {k k' : Key} {v : V} (h : valV kvs k = none) : valV (putK kvs k v) k' = if k' = k then some v else valV kvs k' := by
  rw [putK_new v h]
  unfold valV
  rw [List.find?_append]
  by_cases e : k' = k
  · subst e
    rw [if_pos rfl]
    have : kvs.find? (fun kv => decide (kv.1 = k')) = none := by
      cases q : kvs.find? (fun kv => decide (kv.1 = k')) with
      | none => rfl
      | some x =>
        unfold valV at h
        rw [q] at h
        cases h
    rw [this]
    simp
  · rw [if_neg e]
    cases q : kvs.find? (fun kv => decide (kv.1 = k')) with
    | some x => rfl
    | none =>
      have e2 : ¬ k = k' := fun z => e z.symm
      simp [e2]
section
variable {P : Program} {w : World} {K : PySem.W.Frag} {mg : Str → Option Value} {base : Heap}
theorem ok_Config_init (T : Txt K mg) : FnOk P w K mg base CX0 6 T.f_Config_init T.d_Config_init ["self", "tokens", "balances", "guards", "depth", "window", "delay", "bundle"] (sp_cfg K T.C_Config) := by
  refine T.F_Config_init.ok sc_Config_init (fun vs H Q E h => ?_) (fun cdv A outer s H vs Q E hr h => ?_)
  · obtain ⟨x, dx, tl, bl, g, tv, bv, gd, c, rfl, _⟩ := h; rfl
  · obtain ⟨x, dx, tl, bl, g, tv, bv, gd, c, rfl, hx, htl, hbl, hT, hB, hG, hset, hfine, hc, k⟩ := h
    have hu := hu_of hr
    refine ⟨_, (pss_cons (ps_expr (pe_call (ok_check_list T) (hr.mono (by decide)) (by rfl) T.g_check_list T.F_check_list.kp T.b_check_list .nil pass0 (pa_cons pe_str (pa_cons (pv 1) pa_nil))))
      (pss_cons (ps_expr (pe_call (ok_check_list T) (hr.mono (by decide)) (by rfl) T.g_check_list T.F_check_list.kp T.b_check_list .nil pass0 (pa_cons pe_str (pa_cons (pv 2) pa_nil))))
      (pss_cons (ps_fld (pv 0) pe_dnewK rfl)
      (pss_cons (ps_for PassesOwn.never rfl (pi_list (pv 1)) (pg_name (i := 8) sc_Config_init.nd rfl (Or.inl rfl))
        (pss_cons (ps_expr (pe_call (ok_check_token_row T) (hr.mono (by decide)) (by rfl) T.g_check_token_row T.F_check_token_row.kp T.b_check_token_row .nil pass0 (pa_cons (pv 8) pa_nil)))
      (pss_cons (ps_if (pt_cmp (pc_din hu (pe_ix ix_tup (pv 8) pe_int (fun _ _ => rfl)) (pe_fld (pv 0) rfl))) (pss_one ps_never) pss_nil)
      (pss_one (ps_dput hu (pe_fld (pv 0) rfl) (pe_ix ix_tup (pv 8) pe_int (fun _ _ => rfl)) (pv 8) rfl)))))
      (pss_cons (ps_for PassesOwn.never rfl (pi_list (pv 2)) (pg_name (i := 8) sc_Config_init.nd rfl (Or.inl rfl))
        (pss_one (ps_expr (pe_call (ok_check_balance_row T) (hr.mono (by decide)) (by rfl) T.g_check_balance_row T.F_check_balance_row.kp T.b_check_balance_row .nil pass0 (pa_cons (pv 8) (pa_cons (pe_fld (pv 0) rfl) pa_nil))))))
      (pss_cons (ps_if (pt_not (pt_val (pe_call (ok_is_set T) (hr.mono (by decide)) (by rfl) T.g_is_set T.F_is_set.kp T.b_is_set .nil pass0 (pa_cons (pv 3) pa_nil)))) (pss_one ps_never) pss_nil)
      (pss_cons (ps_expr (pe_call (ok_check_least T) (hr.mono (by decide)) (by rfl) T.g_check_least T.F_check_least.kp T.b_check_least .nil pass0 (pa_cons pe_str (pa_cons (pv 4) (pa_cons pe_int pa_nil)))))
      (pss_cons (ps_expr (pe_call (ok_check_least T) (hr.mono (by decide)) (by rfl) T.g_check_least T.F_check_least.kp T.b_check_least .nil pass0 (pa_cons pe_str (pa_cons (pv 5) (pa_cons pe_int pa_nil)))))
      (pss_cons (ps_expr (pe_call (ok_check_least T) (hr.mono (by decide)) (by rfl) T.g_check_least T.F_check_least.kp T.b_check_least .nil pass0 (pa_cons pe_str (pa_cons (pv 6) (pa_cons pe_int pa_nil)))))
      (pss_cons (ps_expr (pe_call (ok_check_least T) (hr.mono (by decide)) (by rfl) T.g_check_least T.F_check_least.kp T.b_check_least .nil pass0 (pa_cons pe_str (pa_cons (pv 7) (pa_cons pe_int pa_nil)))))
      (pss_cons (ps_if (pt_cmpR op_gt (pv 7) (pe_glob (v := .int 8) (by rfl) T.c_MOST_IN_BUNDLE ⟨_, rfl⟩) (nomark _)) (pss_one ps_never) pss_nil)
      (pss_cons (ps_fld (pv 0) (pe_callTy cq_listOf (by rfl) T.z_list boot_list (pa_cons (pv 2) pa_nil)) rfl)
      (pss_cons (ps_fld (pv 0) (pv 3) rfl)
      (pss_cons (ps_fld (pv 0) (pv 4) rfl)
      (pss_cons (ps_fld (pv 0) (pv 5) rfl)
      (pss_cons (ps_fld (pv 0) (pv 6) rfl)
      (pss_one (ps_fld (pv 0) (pv 7) rfl)))))))))))))))))), ?_⟩
    (dsimp only [cxOf, Cx.nox, Cx.wish, L2.start, List.map, List.length, List.replicate, List.cons_append, List.nil_append, List.append_eq, Nat.reduceSub, Nat.reduceAdd])
    walk_at "my_rd"
    refine ⟨_, tl, tv, rfl, sqL htl, fun H1 sm1 => ?_⟩
    walk_at "my_rd"
    refine ⟨_, bl, bv, rfl, sqL (sm1 _ _ hbl), fun H2 sm2 => ?_⟩
    have sm2 := Same.trans sm1 sm2
    walk_at "my_rd"
    refine q_dNew fun td ntd => ?_
    walk_at "my_rd"
    have hx2 := sm2 _ _ hx
    have nxd : x ≠ td := ne_of_none hx2 ntd
    have htd0 : H td = none := Same.free sm2 ntd
    refine q_fputK (upd_new ntd hx2) T.cl_Config T.n_Config_tokens (by show 0 < 1000; decide) ?_
    walk_at "my_rd"
    generalize hH3 : upd (upd H2 td (.dK [])) x _ = H3
    have hx3 : H3 x = some (.ins T.C_Config dx (putF "_tokens" (.ref td) [])) := by rw [← hH3]; exact upd_same
    have hd3 : H3 td = some (.dK []) := by rw [← hH3]; exact upd_other nxd.symm upd_same
    have kp3 : Kp x H H3 := by rw [← hH3]; exact Kp.upd (Kp.new (Same.kp sm2) htd0)
    have ntx : tl ≠ x := ne_of htl hx (by intro z; cases z)
    have nbx : bl ≠ x := ne_of hbl hx (by intro z; cases z)
    have lk0 : (putF "_tokens" (V.ref td) []).lookup ("_tokens" : Str) = some (.ref td) := rfl
    refine q_forL (sqL (Kp.get kp3 htl ntx)) (fun i σ H' => ∃ (kvs : List (Key × V)) (rv : Option V), σ = [some (.ref x), some (.ref tl), some (.ref bl), some (.ref g), some (.int c.depth), some (.int c.window), some (.int c.delay), some (.int c.bundle), rv] ∧
        H' x = some (.ins T.C_Config dx (putF "_tokens" (.ref td) [])) ∧ H' td = some (.dK kvs) ∧ TabAt H' kvs (c.toks.take i) ∧ Kp x H H')
      ⟨[], none, rfl, hx3, hd3, ⟨rfl, fun t ht => by simp at ht⟩, kp3⟩ (fun i σ H' _ ⟨_, _, _, _, _, _, kp⟩ => sqL (Kp.get kp htl ntx)) ?_ ?_
    · rintro i v σ H' hv ⟨kvs, rv, rfl, hx', hd', hTab, kp⟩
      obtain ⟨t, r, ht, rfl, hr0⟩ := hT.item hv
      have hr1 : H' r = some (.tup t.v) := Kp.get kp hr0 (ne_of hr0 hx (by intro z; cases z))
      have hmem := List.mem_of_getElem? ht
      have hnew : t.name ∉ (c.toks.take i).map TokR.name := by
        intro hm
        have h3 : ((c.toks.take (i + 1)).map TokR.name).Nodup := (List.Sublist.map _ (List.take_sublist _ _)).nodup hc.tn
        rw [take_snoc ht, List.map_append] at h3
        exact (List.nodup_append.mp h3).2.2 t.name hm t.name (by simp) rfl
      walk_at "my_rd"
      refine ⟨r, t, rfl, hr1, hc.t t hmem, fun H4 sm4 => ?_⟩
      have hx4 := sm4 _ _ hx'
      have hd4 := sm4 _ _ hd'
      have hr4 : H4 r = some (.tup [.str t.name, .str t.home, .int t.scale, .int t.limit, .int t.large]) := sm4 _ _ hr1
      have hTab4 : TabAt H4 kvs (c.toks.take i) := hTab.mono fun b ys q => sm4 _ _ q
      walk_at "my_rd"
      refine q_fldK hx4 T.cl_Config T.n_Config_tokens lk0 ?_
      walk_at "my_rd"
      rw [hTab4.has, decide_eq_false hnew]
      walk_at "my_rd"
      refine q_fldK hx4 T.cl_Config T.n_Config_tokens lk0 ?_
      walk_at "my_rd"
      have hvn : valV kvs (Sum.inr t.name) = none := by
        have := hTab4.has t.name
        rw [decide_eq_false hnew] at this
        cases q : valV kvs (Sum.inr t.name) with
        | none => rfl
        | some _ => rw [q] at this; cases this
      refine q_dPutS hd4 (by rw [hTab4.len, List.length_take]; exact small1000 (by have := hc.tl; omega)) ?_
      walk_at "my_rd"
      have ett : c.toks.take (i + 1) = c.toks.take i ++ [t] := take_snoc ht
      have smu : ∀ b ys, H4 b = some (HO.tup ys) → upd H4 td (.dK (putK kvs (Sum.inr t.name) (.ref r))) b = some (.tup ys) := fun b ys q => upd_other (ne_of q hd4 (by intro z; cases z)) q
      refine ⟨putK kvs (Sum.inr t.name) (.ref r), _, rfl, upd_other nxd hx4, upd_same, ⟨?_, ?_⟩, Kp.new (Kp.trans kp (Same.kp sm4)) htd0⟩
      · rw [putK_new _ hvn, List.map_append, hTab4.keys, ett, List.map_append, List.map_append]
        rfl
      · intro t' ht'
        rw [ett] at ht'
        rw [valV_put hvn]
        rcases List.mem_append.mp ht' with h | h
        · obtain ⟨r', h1, h2⟩ := hTab4.at_ t' h
          refine ⟨r', ?_, smu _ _ h2⟩
          rw [if_neg, h1]
          intro e
          injection e with e
          exact hnew (e ▸ List.mem_map.mpr ⟨t', h, rfl⟩)
        · have e := List.mem_singleton.mp h
          subst e
          exact ⟨r, by rw [if_pos rfl], smu _ _ hr4⟩
    · rintro σ H4 ⟨kvs, rv, rfl, hx4, hd4, hTab4, kp4⟩
      have et : c.toks.take tv.length = c.toks := List.take_of_length_le (by rw [hT.len]; exact Nat.le_refl _)
      rw [et] at hTab4
      walk_at "my_rd"
      refine q_forL (sqL (Kp.get kp4 hbl nbx)) (fun i σ H' => ∃ (rv : Option V), σ = [some (.ref x), some (.ref tl), some (.ref bl), some (.ref g), some (.int c.depth), some (.int c.window), some (.int c.delay), some (.int c.bundle), rv] ∧ Same H4 H')
        ⟨_, rfl, Same.refl _⟩ (fun i σ H' _ ⟨_, _, sm⟩ => sqL (sm _ _ (Kp.get kp4 hbl nbx))) ?_ ?_
      · rintro i v σ H' hv ⟨rv, rfl, sm⟩
        obtain ⟨b, r, hb, rfl, hr0⟩ := hB.item hv
        have hr1 : H' r = some (.tup b.v) := sm _ _ (Kp.get kp4 hr0 (ne_of hr0 hx (by intro z; cases z)))
        walk_at "my_rd"
        refine q_fldK (sm _ _ hx4) T.cl_Config T.n_Config_tokens lk0 ?_
        walk_at "my_rd"
        refine ⟨r, td, b, kvs, c.toks, rfl, hr1, sm _ _ hd4, hTab4.mono fun b ys q => sm _ _ q, hc.b b (List.mem_of_getElem? hb), fun H5 sm5 => ?_⟩
        walk_at "my_rd"
        exact ⟨_, rfl, Same.trans sm sm5⟩
      · rintro σ H5 ⟨rv, rfl, sm5⟩
        have kp5 := Kp.trans kp4 (Same.kp sm5)
        have hG5 : TupDp K H5 (.ref g) gd := hG.mono fun b ys q => Kp.get kp5 q (ne_of q hx (by intro z; cases z))
        walk_at "my_rd"
        refine ⟨.ref g, gd, rfl, hG5.dp, hfine, fun H6 sm6 => ?_⟩
        rw [hset]
        walk_at "my_rd"
        refine ⟨_, c.depth, 1, rfl, hc.d, fun H7 sm7 => ?_⟩
        walk_at "my_rd"
        refine ⟨_, c.window, 1, rfl, hc.w, fun H8 sm8 => ?_⟩
        walk_at "my_rd"
        refine ⟨_, c.delay, 0, rfl, hc.y, fun H9 sm9 => ?_⟩
        walk_at "my_rd"
        refine ⟨_, c.bundle, 1, rfl, hc.u, fun H10 sm10 => ?_⟩
        walk_at "my_rd"
        rw [decide_eq_false (show ¬ (8 : Int) < c.bundle by have := hc.u8; omega)]
        walk_at "my_rd"
        have sm : Same H4 H10 := Same.trans sm5 (Same.trans sm6 (Same.trans sm7 (Same.trans sm8 (Same.trans sm9 sm10))))
        have kp10 : Kp x H H10 := Kp.trans kp4 (Same.kp sm)
        refine q_listL (sqL (Kp.get kp10 hbl nbx)) fun nb nnb => ?_
        walk_at "my_rd"
        have hx10 := sm _ _ hx4
        have nxb : x ≠ nb := ne_of_none hx10 nnb
        have ndb : td ≠ nb := ne_of_none (sm _ _ hd4) nnb
        have hnb0 : H nb = none := Kp.fresh kp10 hx nnb nxb.symm
        refine q_fputK (upd_new nnb hx10) T.cl_Config T.n_Config_balances (by show 1 < 1000; decide) ?_
        walk_at "my_rd"
        refine q_fputK upd_same T.cl_Config T.n_Config_guards (by show _ < 1000; exact Nat.lt_of_le_of_lt (q_fldlen (n := 1) (by show 1 ≤ 1; decide)) (by decide)) ?_
        walk_at "my_rd"
        refine q_fputK upd_same T.cl_Config T.n_Config_depth (Nat.lt_of_le_of_lt (q_fldlen (n := 2) (q_fldlen (n := 1) (by show 1 ≤ 1; decide))) (by decide)) ?_
        walk_at "my_rd"
        refine q_fputK upd_same T.cl_Config T.n_Config_window (Nat.lt_of_le_of_lt (q_fldlen (n := 3) (q_fldlen (n := 2) (q_fldlen (n := 1) (by show 1 ≤ 1; decide)))) (by decide)) ?_
        walk_at "my_rd"
        refine q_fputK upd_same T.cl_Config T.n_Config_delay (Nat.lt_of_le_of_lt (q_fldlen (n := 4) (q_fldlen (n := 3) (q_fldlen (n := 2) (q_fldlen (n := 1) (by show 1 ≤ 1; decide))))) (by decide)) ?_
        walk_at "my_rd"
        refine q_fputK upd_same T.cl_Config T.n_Config_bundle (Nat.lt_of_le_of_lt (q_fldlen (n := 5) (q_fldlen (n := 4) (q_fldlen (n := 3) (q_fldlen (n := 2) (q_fldlen (n := 1) (by show 1 ≤ 1; decide)))))) (by decide)) ?_
        walk_at "my_rd"
        rw [upd_upd, upd_upd, upd_upd, upd_upd, upd_upd]
        have kpU : ∀ o, Kp x H (upd (upd H10 nb (.lst bv)) x o) := fun o => Kp.upd (Kp.new kp10 hnb0)
        have tupU : ∀ o b ys, H10 b = some (HO.tup ys) → upd (upd H10 nb (.lst bv)) x o b = some (.tup ys) := fun o b ys q => upd_other (ne_of q hx10 (by intro z; cases z)) (upd_new nnb q)
        refine k _ ⟨⟨dx, _, td, nb, kvs, bv, upd_same, ?_, ?_, ?_, ?_, ?_, ?_, ?_, ?_, upd_other nxd.symm (upd_new nnb (sm _ _ hd4)), (hTab4.mono fun b ys q => sm _ _ q).mono (tupU _), upd_other nxb.symm upd_same, ?_⟩⟩ (kpU _)
        · (repeat first | rfl | rw [lookup_putF, if_pos rfl] | rw [lookup_putF, if_neg (by decide +kernel)])
        · (repeat first | rfl | rw [lookup_putF, if_pos rfl] | rw [lookup_putF, if_neg (by decide +kernel)])
        · (repeat first | rfl | rw [lookup_putF, if_pos rfl] | rw [lookup_putF, if_neg (by decide +kernel)])
        · (repeat first | rfl | rw [lookup_putF, if_pos rfl] | rw [lookup_putF, if_neg (by decide +kernel)])
        · (repeat first | rfl | rw [lookup_putF, if_pos rfl] | rw [lookup_putF, if_neg (by decide +kernel)])
        · (repeat first | rfl | rw [lookup_putF, if_pos rfl] | rw [lookup_putF, if_neg (by decide +kernel)])
        · (repeat first | rfl | rw [lookup_putF, if_pos rfl] | rw [lookup_putF, if_neg (by decide +kernel)])
        · intro m hm
          have hne : ∀ z ∈ cfgNames, ¬ m = z := fun z hz e => hm (e ▸ hz)
          rw [lookup_putF, if_neg (hne _ (by decide +kernel)), lookup_putF, if_neg (hne _ (by decide +kernel)), lookup_putF, if_neg (hne _ (by decide +kernel)), lookup_putF, if_neg (hne _ (by decide +kernel)), lookup_putF, if_neg (hne _ (by decide +kernel)), lookup_putF, if_neg (hne _ (by decide +kernel)), lookup_putF, if_neg (hne _ (by decide +kernel))]
          rfl
        · exact (hB.kp hx kp10).mono (tupU _)
end

local macro_rules | `(tactic| walk_at "my_rd") => `(tactic| (repeat first
  | with_reducible refine q_tCons ?_
  | ((with_reducible apply q_var); (focus (exact rfl)))
  | with_reducible refine q_c ?_
  | ((with_reducible apply q_nxE); (focus (with_reducible exact rfl)))
  | with_reducible refine q_bK ?_
  | with_reducible refine q_call ?_
  | with_reducible refine q_callK ?_
  | with_reducible refine q_tNil ?_
  | with_reducible refine q_cb ?_
  | with_reducible refine q_seq ?_
  | with_reducible refine q_asg ?_
  | with_reducible refine q_gName ?_
  | with_reducible refine q_op ?_
  | with_reducible refine q_test ?_
  | with_reducible refine q_tB ?_
  | with_reducible refine q_ifS ?_
  | with_reducible refine q_ret ?_
  | ((with_reducible apply q_rtE); (focus (with_reducible exact rfl)))
  | with_reducible refine q_next ?_
  | with_reducible refine q_ifF ?_
  | with_reducible refine q_ifT ?_
  | with_reducible refine q_drop ?_
  | with_reducible refine q_and ?_
  | with_reducible refine q_or ?_
  | with_reducible refine q_andT ?_
  | with_reducible refine q_andF ?_
  | with_reducible refine q_orF ?_
  | with_reducible refine q_orT ?_
  | with_reducible refine q_andV ?_
  | with_reducible refine q_andVT ?_
  | with_reducible refine q_andVF ?_
  | with_reducible refine q_orV ?_
  | with_reducible refine q_gCons ?_
  | with_reducible refine q_gNil ?_
  | with_reducible refine q_tup ?_
  | with_reducible refine q_lst ?_
  | with_reducible refine q_not ?_
  | with_reducible refine q_notKT ?_
  | with_reducible refine q_notKF ?_
  | with_reducible refine q_I0 ?_
  | with_reducible refine q_eqI ?_
  | with_reducible refine q_neI ?_
  | ((with_reducible refine q_I ?_ ?_); first | decide | omega | exact ⟨by omega, by omega⟩ | exact ⟨by decide, by decide⟩ | exact .inl ⟨by omega, by omega⟩ | exact .inr ⟨by omega, by omega⟩ | exact .inr ⟨by decide, by decide⟩)
  | with_reducible refine q_eqS ?_
  | with_reducible refine q_neS ?_
  | with_reducible refine q_brk ?_
  | with_reducible refine q_ct ?_
  | ((with_reducible apply q_bkE); (focus (with_reducible exact rfl)))
  | ((with_reducible apply q_cnE); (focus (with_reducible exact rfl)))
  | with_reducible refine q_retN ?_
  | with_reducible refine q_gSub ?_
  | with_reducible refine q_for ?_
  | with_reducible refine q_iList ?_
  | with_reducible refine q_iTup ?_
  | with_reducible refine q_iRng1 ?_
  | with_reducible refine q_notK ?_
  | with_reducible refine q_orVT ?_
  | with_reducible refine q_orVF ?_
  | with_reducible refine q_notV ?_
  | with_reducible refine q_notVK ?_
  | with_reducible refine q_ifE ?_
  | with_reducible refine q_ifET ?_
  | with_reducible refine q_ifEF ?_
  | with_reducible refine q_yes ?_
  | with_reducible refine q_un ?_
  | with_reducible refine q_rU ?_
  | with_reducible refine q_abs ?_
  | with_reducible refine q_int1 ?_
  | with_reducible refine q_bm ?_
  | with_reducible refine q_bm0 ?_
  | with_reducible refine q_lc ?_
  | with_reducible refine q_keepT ?_
  | with_reducible refine q_keepF ?_
  | ((with_reducible apply q_aug); (focus (exact rfl)))
  | with_reducible refine q_ipI ?_
  | with_reducible refine q_chain ?_
  | with_reducible refine q_pairC ?_
  | with_reducible refine q_pairsK ?_
  | with_reducible refine q_pairN ?_
  | with_reducible refine q_fld ?_
  | with_reducible refine q_sFld ?_
  | with_reducible refine q_meth ?_
  | with_reducible refine q_makeK ?_
  | with_reducible refine q_isBl ?_
  | with_reducible refine q_notBl ?_
  | with_reducible refine q_sl ?_
  | with_reducible refine q_noPart ?_
  | with_reducible refine q_part ?_
  | with_reducible refine q_partK ?_
  | ((with_reducible apply q_mulStr); (focus (decide +kernel)))
  | with_reducible refine q_chT ?_
  | with_reducible refine q_chF ?_
  | with_reducible refine q_ord ?_
  | with_reducible refine q_iStr0 ?_
  | with_reducible refine q_iStr ?_
  | with_reducible refine q_tDIn ?_
  | with_reducible refine q_tDNotIn ?_
  | with_reducible refine q_tDGet ?_
  | with_reducible refine q_tDGet2 ?_
  | with_reducible refine q_tDGet1 ?_
  | with_reducible refine q_tDSetd ?_
  | ((with_reducible apply q_dG2a); (focus ((repeat first | (with_reducible exact upd_same) | (with_reducible assumption) | (with_reducible apply upd_new (by assumption)) | (with_reducible apply upd_other (by first | assumption | exact Ne.symm (by assumption))) | (with_reducible refine' Kp.get (by assumption) ?_ (by first | assumption | exact Ne.symm (by assumption))) | (with_reducible apply Same.get (by assumption))); done)))
  | ((with_reducible apply q_dSda); (focus ((repeat first | (with_reducible exact upd_same) | (with_reducible assumption) | (with_reducible apply upd_new (by assumption)) | (with_reducible apply upd_other (by first | assumption | exact Ne.symm (by assumption))) | (with_reducible refine' Kp.get (by assumption) ?_ (by first | assumption | exact Ne.symm (by assumption))) | (with_reducible apply Same.get (by assumption))); done)))
  | with_reducible refine q_sDPut ?_
  | ((with_reducible apply q_dInS); (focus ((repeat first | (with_reducible exact upd_same) | (with_reducible assumption) | (with_reducible apply upd_new (by assumption)) | (with_reducible apply upd_other (by first | assumption | exact Ne.symm (by assumption))) | (with_reducible refine' Kp.get (by assumption) ?_ (by first | assumption | exact Ne.symm (by assumption))) | (with_reducible apply Same.get (by assumption))); done)))
  | ((with_reducible apply q_dNInS); (focus ((repeat first | (with_reducible exact upd_same) | (with_reducible assumption) | (with_reducible apply upd_new (by assumption)) | (with_reducible apply upd_other (by first | assumption | exact Ne.symm (by assumption))) | (with_reducible refine' Kp.get (by assumption) ?_ (by first | assumption | exact Ne.symm (by assumption))) | (with_reducible apply Same.get (by assumption))); done)))
  | ((with_reducible apply q_dInI); (focus ((repeat first | (with_reducible exact upd_same) | (with_reducible assumption) | (with_reducible apply upd_new (by assumption)) | (with_reducible apply upd_other (by first | assumption | exact Ne.symm (by assumption))) | (with_reducible refine' Kp.get (by assumption) ?_ (by first | assumption | exact Ne.symm (by assumption))) | (with_reducible apply Same.get (by assumption))); done)))
  | ((with_reducible apply q_dNInI); (focus ((repeat first | (with_reducible exact upd_same) | (with_reducible assumption) | (with_reducible apply upd_new (by assumption)) | (with_reducible apply upd_other (by first | assumption | exact Ne.symm (by assumption))) | (with_reducible refine' Kp.get (by assumption) ?_ (by first | assumption | exact Ne.symm (by assumption))) | (with_reducible apply Same.get (by assumption))); done)))
  | ((with_reducible apply q_bmL); (focus ((repeat first | (with_reducible exact upd_same) | (with_reducible assumption) | (with_reducible apply upd_new (by assumption)) | (with_reducible apply upd_other (by first | assumption | exact Ne.symm (by assumption))) | (with_reducible refine' Kp.get (by assumption) ?_ (by first | assumption | exact Ne.symm (by assumption))) | (with_reducible apply Same.get (by assumption))); done)))
  | ((with_reducible apply q_bmL0); (focus ((repeat first | (with_reducible exact upd_same) | (with_reducible assumption) | (with_reducible apply upd_new (by assumption)) | (with_reducible apply upd_other (by first | assumption | exact Ne.symm (by assumption))) | (with_reducible refine' Kp.get (by assumption) ?_ (by first | assumption | exact Ne.symm (by assumption))) | (with_reducible apply Same.get (by assumption))); done)))
  | ((with_reducible apply q_ixLt); (focus ((repeat first | (with_reducible exact upd_same) | (with_reducible assumption) | (with_reducible apply upd_new (by assumption)) | (with_reducible apply upd_other (by first | assumption | exact Ne.symm (by assumption))) | (with_reducible refine' Kp.get (by assumption) ?_ (by first | assumption | exact Ne.symm (by assumption))) | (with_reducible apply Same.get (by assumption))); done)); (focus (exact rfl)))
  | ((with_reducible apply q_ixTt); (focus ((repeat first | (with_reducible exact upd_same) | (with_reducible assumption) | (with_reducible apply upd_new (by assumption)) | (with_reducible apply upd_other (by first | assumption | exact Ne.symm (by assumption))) | (with_reducible refine' Kp.get (by assumption) ?_ (by first | assumption | exact Ne.symm (by assumption))) | (with_reducible apply Same.get (by assumption))); done)); (focus (exact rfl)))
  | ((with_reducible apply q_lenLt); (focus ((repeat first | (with_reducible exact upd_same) | (with_reducible assumption) | (with_reducible apply upd_new (by assumption)) | (with_reducible apply upd_other (by first | assumption | exact Ne.symm (by assumption))) | (with_reducible refine' Kp.get (by assumption) ?_ (by first | assumption | exact Ne.symm (by assumption))) | (with_reducible apply Same.get (by assumption))); done)))
  | ((with_reducible apply q_lenTt); (focus ((repeat first | (with_reducible exact upd_same) | (with_reducible assumption) | (with_reducible apply upd_new (by assumption)) | (with_reducible apply upd_other (by first | assumption | exact Ne.symm (by assumption))) | (with_reducible refine' Kp.get (by assumption) ?_ (by first | assumption | exact Ne.symm (by assumption))) | (with_reducible apply Same.get (by assumption))); done)))
  | ((with_reducible apply q_append); (focus ((repeat first | (with_reducible exact upd_same) | (with_reducible assumption) | (with_reducible apply upd_new (by assumption)) | (with_reducible apply upd_other (by first | assumption | exact Ne.symm (by assumption))) | (with_reducible refine' Kp.get (by assumption) ?_ (by first | assumption | exact Ne.symm (by assumption))) | (with_reducible apply Same.get (by assumption))); done)); (focus ((first | (exact Nat.lt_of_ble_eq_true rfl) | (simp only [List.length_append, List.length_cons, List.length_nil, List.length_map]; exact small1000 (by omega))))))
  | ((with_reducible apply q_setL); (focus ((repeat first | (with_reducible exact upd_same) | (with_reducible assumption) | (with_reducible apply upd_new (by assumption)) | (with_reducible apply upd_other (by first | assumption | exact Ne.symm (by assumption))) | (with_reducible refine' Kp.get (by assumption) ?_ (by first | assumption | exact Ne.symm (by assumption))) | (with_reducible apply Same.get (by assumption))); done)); (focus (exact rfl)))
  | with_reducible refine q_ifNT ?_
  | with_reducible refine q_ifNF ?_
  | with_reducible refine q_andNT ?_
  | with_reducible refine q_andNF ?_
  | with_reducible refine q_orNT ?_
  | with_reducible refine q_orNF ?_
  | with_reducible refine q_bKNT ?_
  | with_reducible refine q_bKNF ?_
  | with_reducible refine q_tNGet ?_
  | with_reducible refine q_tNIn ?_
  | with_reducible refine q_sNPut ?_
  | with_reducible refine q_sFldAug ?_
  | with_reducible refine q_sDAug ?_
  | with_reducible refine q_sDDel ?_
  | with_reducible refine q_forX ?_
  | with_reducible refine q_tMake ?_
  | ((with_reducible apply q_dG1a); (focus ((repeat first | (with_reducible exact upd_same) | (with_reducible assumption) | (with_reducible apply upd_new (by assumption)) | (with_reducible apply upd_other (by first | assumption | exact Ne.symm (by assumption))) | (with_reducible refine' Kp.get (by assumption) ?_ (by first | assumption | exact Ne.symm (by assumption))) | (with_reducible apply Same.get (by assumption))); done)))))
def Parts.homeOf (c : Parts) (s : Str) : Str := ((c.toks.find? fun t => decide (t.name = s)).map TokR.home).getD ""
theorem find_name {ts : List TokR} (hn : (ts.map TokR.name).Nodup) {t : TokR} (ht : t ∈ ts) : (ts.find? fun u => decide (u.name = t.name)) = some t := by
  induction ts with
  | nil => cases ht
  | cons u r ih =>
    obtain ⟨h1, h2⟩ := List.nodup_cons.mp (show (u.name :: r.map TokR.name).Nodup from hn)
    rw [List.find?_cons]
    rcases List.mem_cons.mp ht with e | e
    · subst e
      rw [decide_eq_true rfl]
    · have : ¬ u.name = t.name := fun q => h1 (q ▸ List.mem_map.mpr ⟨t, e, rfl⟩)
      rw [decide_eq_false this]
      exact ih h2 e
theorem Parts.home_eq {c : Parts} (h : c.Ok) {t : TokR} (ht : t ∈ c.toks) : c.homeOf t.name = t.home := by
  unfold Parts.homeOf
  rw [find_name h.tn ht]
  rfl
def sp_getI (C : Addr) (f : Parts → Int) : Sp := fun vs H Q _ => ∃ (x g : Addr) (c : Parts), vs = [.ref x] ∧ CfgAt C c g H x ∧ Q (.int (f c)) H
def sp_guards (C : Addr) : Sp := fun vs H Q _ => ∃ (x g : Addr) (c : Parts), vs = [.ref x] ∧ CfgAt C c g H x ∧ Q (.ref g) H
def sp_tokchk (C : Addr) : Sp := fun vs H Q _ => ∃ (x g : Addr) (c : Parts) (t : TokR), vs = [.ref x, .str t.name] ∧ CfgAt C c g H x ∧ t ∈ c.toks ∧ Q .non H
def sp_tok (C : Addr) (f : TokR → V) : Sp := fun vs H Q _ => ∃ (x g : Addr) (c : Parts) (t : TokR), vs = [.ref x, .str t.name] ∧ CfgAt C c g H x ∧ t ∈ c.toks ∧ Q (f t) H
def sp_opening (C : Addr) : Sp := fun vs H Q _ => ∃ (x g : Addr) (c : Parts) (s : Str), vs = [.ref x, .str s] ∧ CfgAt C c g H x ∧ c.Ok ∧ ∀ (p : Addr) (ys : List V) (H' : Hp), H p = none → H' p = some (.lst ys) → RowsAt BalR.v H' ys (c.bals.filter fun b => decide (c.homeOf b.tok = s)) → Same H H' → Q (.ref p) H'
section
variable {P : Program} {w : World} {K : PySem.W.Frag} {mg : Str → Option Value} {base : Heap}
theorem ok_Config_depth (T : Txt K mg) : FnOk P w K mg base CX0 1 T.f_Config_depth T.d_Config_depth ["self"] (sp_getI T.C_Config Parts.depth) := by
  refine T.F_Config_depth.ok sc_Config_depth (fun vs H Q E h => ?_) (fun cdv A outer s H vs Q E hr h => ?_)
  · obtain ⟨x, g, c, rfl, _⟩ := h; rfl
  · obtain ⟨x, g, c, rfl, hC, k⟩ := h
    obtain ⟨dx, fs, td, bl, kvs, bv, h1, h2, h3, h4, h5, h6, h7, h8, h9, h10, h11, h12, h13⟩ := hC.ex
    refine ⟨_, (pss_one (ps_ret (pe_fld (pv 0) rfl))), ?_⟩
    (dsimp only [cxOf, Cx.nox, Cx.wish, L2.start, List.map, List.length, List.replicate, List.cons_append, List.nil_append, List.append_eq, Nat.reduceSub, Nat.reduceAdd])
    walk_at "my_rd"
    refine q_fldK h1 T.cl_Config T.n_Config_depth h5 ?_
    exact k
theorem ok_Config_window (T : Txt K mg) : FnOk P w K mg base CX0 1 T.f_Config_window T.d_Config_window ["self"] (sp_getI T.C_Config Parts.window) := by
  refine T.F_Config_window.ok sc_Config_window (fun vs H Q E h => ?_) (fun cdv A outer s H vs Q E hr h => ?_)
  · obtain ⟨x, g, c, rfl, _⟩ := h; rfl
  · obtain ⟨x, g, c, rfl, hC, k⟩ := h
    obtain ⟨dx, fs, td, bl, kvs, bv, h1, h2, h3, h4, h5, h6, h7, h8, h9, h10, h11, h12, h13⟩ := hC.ex
    refine ⟨_, (pss_one (ps_ret (pe_fld (pv 0) rfl))), ?_⟩
    (dsimp only [cxOf, Cx.nox, Cx.wish, L2.start, List.map, List.length, List.replicate, List.cons_append, List.nil_append, List.append_eq, Nat.reduceSub, Nat.reduceAdd])
    walk_at "my_rd"
    refine q_fldK h1 T.cl_Config T.n_Config_window h6 ?_
    exact k
theorem ok_Config_delay (T : Txt K mg) : FnOk P w K mg base CX0 1 T.f_Config_delay T.d_Config_delay ["self"] (sp_getI T.C_Config Parts.delay) := by
  refine T.F_Config_delay.ok sc_Config_delay (fun vs H Q E h => ?_) (fun cdv A outer s H vs Q E hr h => ?_)
  · obtain ⟨x, g, c, rfl, _⟩ := h; rfl
  · obtain ⟨x, g, c, rfl, hC, k⟩ := h
    obtain ⟨dx, fs, td, bl, kvs, bv, h1, h2, h3, h4, h5, h6, h7, h8, h9, h10, h11, h12, h13⟩ := hC.ex
    refine ⟨_, (pss_one (ps_ret (pe_fld (pv 0) rfl))), ?_⟩
    (dsimp only [cxOf, Cx.nox, Cx.wish, L2.start, List.map, List.length, List.replicate, List.cons_append, List.nil_append, List.append_eq, Nat.reduceSub, Nat.reduceAdd])
    walk_at "my_rd"
    refine q_fldK h1 T.cl_Config T.n_Config_delay h7 ?_
    exact k
theorem ok_Config_bundle (T : Txt K mg) : FnOk P w K mg base CX0 1 T.f_Config_bundle T.d_Config_bundle ["self"] (sp_getI T.C_Config Parts.bundle) := by
  refine T.F_Config_bundle.ok sc_Config_bundle (fun vs H Q E h => ?_) (fun cdv A outer s H vs Q E hr h => ?_)
  · obtain ⟨x, g, c, rfl, _⟩ := h; rfl
  · obtain ⟨x, g, c, rfl, hC, k⟩ := h
    obtain ⟨dx, fs, td, bl, kvs, bv, h1, h2, h3, h4, h5, h6, h7, h8, h9, h10, h11, h12, h13⟩ := hC.ex
    refine ⟨_, (pss_one (ps_ret (pe_fld (pv 0) rfl))), ?_⟩
    (dsimp only [cxOf, Cx.nox, Cx.wish, L2.start, List.map, List.length, List.replicate, List.cons_append, List.nil_append, List.append_eq, Nat.reduceSub, Nat.reduceAdd])
    walk_at "my_rd"
    refine q_fldK h1 T.cl_Config T.n_Config_bundle h8 ?_
    exact k
theorem ok_Config_guards (T : Txt K mg) : FnOk P w K mg base CX0 1 T.f_Config_guards T.d_Config_guards ["self"] (sp_guards T.C_Config) := by
  refine T.F_Config_guards.ok sc_Config_guards (fun vs H Q E h => ?_) (fun cdv A outer s H vs Q E hr h => ?_)
  · obtain ⟨x, g, c, rfl, _⟩ := h; rfl
  · obtain ⟨x, g, c, rfl, hC, k⟩ := h
    obtain ⟨dx, fs, td, bl, kvs, bv, h1, h2, h3, h4, h5, h6, h7, h8, h9, h10, h11, h12, h13⟩ := hC.ex
    refine ⟨_, (pss_one (ps_ret (pe_fld (pv 0) rfl))), ?_⟩
    (dsimp only [cxOf, Cx.nox, Cx.wish, L2.start, List.map, List.length, List.replicate, List.cons_append, List.nil_append, List.append_eq, Nat.reduceSub, Nat.reduceAdd])
    walk_at "my_rd"
    refine q_fldK h1 T.cl_Config T.n_Config_guards h4 ?_
    exact k
theorem ok_Config_check_token (T : Txt K mg) : FnOk P w K mg base CX0 1 T.f_Config_check_token T.d_Config_check_token ["self", "token"] (sp_tokchk T.C_Config) := by
  refine T.F_Config_check_token.ok sc_Config_check_token (fun vs H Q E h => ?_) (fun cdv A outer s H vs Q E hr h => ?_)
  · obtain ⟨x, g, c, t, rfl, _⟩ := h; rfl
  · obtain ⟨x, g, c, t, rfl, hC, ht, k⟩ := h
    have hu := hu_of hr
    obtain ⟨dx, fs, td, bl, kvs, bv, h1, h2, h3, h4, h5, h6, h7, h8, h9, h10, h11, h12, h13⟩ := hC.ex
    refine ⟨_, (pss_one (ps_if (pt_cmp (pc_dnotin hu (pv 1) (pe_fld (pv 0) rfl))) (pss_one ps_never) pss_nil)), ?_⟩
    (dsimp only [cxOf, Cx.nox, Cx.wish, L2.start, List.map, List.length, List.replicate, List.cons_append, List.nil_append, List.append_eq, Nat.reduceSub, Nat.reduceAdd])
    walk_at "my_rd"
    refine q_fldK h1 T.cl_Config T.n_Config_tokens h2 ?_
    walk_at "my_rd"
    rw [h11.has, decide_eq_true (List.mem_map.mpr ⟨t, ht, rfl⟩)]
    walk_at "my_rd"
    exact k
theorem no_check_token : ("check_token" : Str) ∉ cfgNames := by decide +kernel
theorem no_home : ("home" : Str) ∉ cfgNames := by decide +kernel
theorem no_scale : ("scale" : Str) ∉ cfgNames := by decide +kernel
theorem no_opening : ("opening" : Str) ∉ cfgNames := by decide +kernel
theorem ok_Config_home (T : Txt K mg) : FnOk P w K mg base CX0 2 T.f_Config_home T.d_Config_home ["self", "token"] (sp_tok T.C_Config fun t => .str t.home) := by
  refine T.F_Config_home.ok sc_Config_home (fun vs H Q E h => ?_) (fun cdv A outer s H vs Q E hr h => ?_)
  · obtain ⟨x, g, c, t, rfl, _⟩ := h; rfl
  · obtain ⟨x, g, c, t, rfl, hC, ht, k⟩ := h
    have hu := hu_of hr
    obtain ⟨dx, fs, td, bl, kvs, bv, h1, h2, h3, h4, h5, h6, h7, h8, h9, h10, h11, h12, h13⟩ := hC.ex
    obtain ⟨r, hv, hr0⟩ := h11.at_ t ht
    have hr1 : H r = some (.tup [.str t.name, .str t.home, .int t.scale, .int t.limit, .int t.large]) := hr0
    refine ⟨_, (pss_cons (ps_expr (pe_meth (pv 0) T.cl_Config T.m_Config_check_token (ok_Config_check_token T) (hr.mono (by decide)) T.b_Config_check_token .nil pass0 (pa_cons (pv 1) pa_nil)))
      (pss_one (ps_ret (pe_ix ix_tup (pe_dget hu (pe_fld (pv 0) rfl) (pv 1) (fun _ _ => rfl)) pe_int (fun _ _ => rfl))))), ?_⟩
    (dsimp only [cxOf, Cx.nox, Cx.wish, L2.start, List.map, List.length, List.replicate, List.cons_append, List.nil_append, List.append_eq, Nat.reduceSub, Nat.reduceAdd])
    walk_at "my_rd"
    refine q_methK h1 (h9 _ no_check_token) fun R hR => ?_
    walk_at "my_rd"
    refine hR _ _ ⟨x, g, c, t, rfl, hC, ht, ?_⟩
    walk_at "my_rd"
    refine q_fldK h1 T.cl_Config T.n_Config_tokens h2 ?_
    walk_at "my_rd"
    refine q_dGetS h10 hv ?_
    walk_at "my_rd"
    exact k
theorem ok_Config_scale (T : Txt K mg) : FnOk P w K mg base CX0 2 T.f_Config_scale T.d_Config_scale ["self", "token"] (sp_tok T.C_Config fun t => .int t.scale) := by
  refine T.F_Config_scale.ok sc_Config_scale (fun vs H Q E h => ?_) (fun cdv A outer s H vs Q E hr h => ?_)
  · obtain ⟨x, g, c, t, rfl, _⟩ := h; rfl
  · obtain ⟨x, g, c, t, rfl, hC, ht, k⟩ := h
    have hu := hu_of hr
    obtain ⟨dx, fs, td, bl, kvs, bv, h1, h2, h3, h4, h5, h6, h7, h8, h9, h10, h11, h12, h13⟩ := hC.ex
    obtain ⟨r, hv, hr0⟩ := h11.at_ t ht
    have hr1 : H r = some (.tup [.str t.name, .str t.home, .int t.scale, .int t.limit, .int t.large]) := hr0
    refine ⟨_, (pss_cons (ps_expr (pe_meth (pv 0) T.cl_Config T.m_Config_check_token (ok_Config_check_token T) (hr.mono (by decide)) T.b_Config_check_token .nil pass0 (pa_cons (pv 1) pa_nil)))
      (pss_one (ps_ret (pe_ix ix_tup (pe_dget hu (pe_fld (pv 0) rfl) (pv 1) (fun _ _ => rfl)) pe_int (fun _ _ => rfl))))), ?_⟩
    (dsimp only [cxOf, Cx.nox, Cx.wish, L2.start, List.map, List.length, List.replicate, List.cons_append, List.nil_append, List.append_eq, Nat.reduceSub, Nat.reduceAdd])
    walk_at "my_rd"
    refine q_methK h1 (h9 _ no_check_token) fun R hR => ?_
    walk_at "my_rd"
    refine hR _ _ ⟨x, g, c, t, rfl, hC, ht, ?_⟩
    walk_at "my_rd"
    refine q_fldK h1 T.cl_Config T.n_Config_tokens h2 ?_
    walk_at "my_rd"
    refine q_dGetS h10 hv ?_
    walk_at "my_rd"
    exact k
theorem ok_Config_opening (T : Txt K mg) : FnOk P w K mg base CX0 3 T.f_Config_opening T.d_Config_opening ["self", "side"] (sp_opening T.C_Config) := by
  refine T.F_Config_opening.ok sc_Config_opening (fun vs H Q E h => ?_) (fun cdv A outer s H vs Q E hr h => ?_)
  · obtain ⟨x, g, c, sd, rfl, _⟩ := h; rfl
  · obtain ⟨x, g, c, sd, rfl, hC, hc, k⟩ := h
    obtain ⟨dx, fs, td, bl, kvs, bv, h1, h2, h3, h4, h5, h6, h7, h8, h9, h10, h11, h12, h13⟩ := hC.ex
    refine ⟨_, (pss_one (ps_ret (pe_lc (own := [("row", 2)]) (g := (gName 2)) (tt := (tTest (tOp rEq (tMeth T.C_Config "home" (sp_tok T.C_Config fun t => .str t.home) [] E0 (tVar 0) (tCons (tOp (rIxT K) (tVar 2) (tC (.int 1))) tNil)) (tVar 1)))) (te := (tVar 2)) rfl sc_Config_opening.nd (pi_list (pe_fld (pv 0) rfl)) (blkOk_by (own := [("row", 2)]) (N := ["self", "side", "row"]) (sc := defScope s_Config_opening) (by decide +kernel)) (fun _ _ _ _ _ => (pg_name (i := 2) sc_Config_opening.nd rfl (Or.inl rfl))) (fun _ _ _ _ _ => (pts_one (pt_cmpR op_eq (pe_meth (pv 0) T.cl_Config T.m_Config_home (ok_Config_home T) (hr.mono (by decide)) T.b_Config_home .nil pass0 (pa_cons (pe_ix ix_tup (pv 2) pe_int (fun _ _ => rfl)) pa_nil)) (pv 1) (nomark _)))) (fun _ _ _ _ _ => (pv 2))))), ?_⟩
    (dsimp only [cxOf, Cx.nox, Cx.wish, L2.start, List.map, List.length, List.replicate, List.cons_append, List.nil_append, List.append_eq, Nat.reduceSub, Nat.reduceAdd])
    walk_at "my_rd"
    refine q_fldK h1 T.cl_Config T.n_Config_balances h3 ?_
    refine q_lcL (sqL h12) (fun D nD => ⟨fun i H2 => ∃ ys, Same H H2 ∧ H2 D = some (.lst ys) ∧ RowsAt BalR.v H2 ys ((c.bals.take i).filter fun b => decide (c.homeOf b.tok = sd)), ⟨[], Same.new (Same.refl _) nD, upd_same, RowsAt.nil⟩, fun i H2 _ ⟨_, sm, _⟩ => sqL (sm _ _ h12), ?_, ?_⟩)
    · rintro i v H2 hv ⟨ys, sm, hD, hR⟩
      obtain ⟨b, r, hb, rfl, hr0⟩ := h13.item hv
      have hr1 : H2 r = some (.tup [.str b.acc, .str b.tok, .int b.amt]) := sm _ _ hr0
      have hbo := hc.b b (List.mem_of_getElem? hb)
      obtain ⟨t, ht, hte⟩ := List.mem_map.mp hbo.tm
      have et : (c.bals.take (i + 1)).filter (fun b => decide (c.homeOf b.tok = sd)) = (c.bals.take i).filter (fun b => decide (c.homeOf b.tok = sd)) ++ (if decide (c.homeOf b.tok = sd) = true then [b] else []) := by
        rw [take_snoc hb, List.filter_append, List.filter_cons, List.filter_nil]
      have eh : c.homeOf b.tok = t.home := by rw [← hte]; exact Parts.home_eq hc ht
      walk_at "my_rd"
      refine ⟨rfl, ?_⟩
      walk_at "my_rd"
      refine q_methK (sm _ _ h1) (h9 _ no_home) fun R hR2 => ?_
      walk_at "my_rd"
      refine hR2 _ _ ⟨x, g, c, t, by rw [hte], hC.same sm, ht, ?_⟩
      walk_at "my_rd"
      rw [eh] at et
      refine q_keep2 (fun h => ?_) (fun h => ?_)
      · walk_at "my_rd"
        refine q_accK hD ?_ ?_
        · rw [hR.len]
          have := List.length_filter_le (fun b => decide (c.homeOf b.tok = sd)) (c.bals.take i)
          rw [List.length_take] at this
          exact small1000 (by have := hc.bl; omega)
        · refine ⟨_, Same.new sm nD, upd_same, ?_⟩
          rw [et, if_pos h]
          exact (hR.snoc (r := b) hr1).mono fun b' ys' q => upd_other (ne_of q hD (by intro z; cases z)) q
      · refine ⟨ys, sm, hD, ?_⟩
        rw [et, if_neg (by rw [h]; exact Bool.false_ne_true), List.append_nil]
        exact hR
    · rintro H2 ⟨ys, sm, hD, hR⟩
      have e : c.bals.take bv.length = c.bals := List.take_of_length_le (by rw [h13.len]; exact Nat.le_refl _)
      rw [e] at hR
      exact k D ys H2 nD hD hR sm
end

local macro_rules | `(tactic| walk_at "my_rd") => `(tactic| (repeat first
  | with_reducible refine q_tCons ?_
  | ((with_reducible apply q_var); (focus (exact rfl)))
  | with_reducible refine q_c ?_
  | ((with_reducible apply q_nxE); (focus (with_reducible exact rfl)))
  | with_reducible refine q_bK ?_
  | with_reducible refine q_call ?_
  | with_reducible refine q_callK ?_
  | with_reducible refine q_tNil ?_
  | with_reducible refine q_cb ?_
  | with_reducible refine q_seq ?_
  | with_reducible refine q_asg ?_
  | with_reducible refine q_gName ?_
  | with_reducible refine q_op ?_
  | with_reducible refine q_test ?_
  | with_reducible refine q_tB ?_
  | with_reducible refine q_ifS ?_
  | with_reducible refine q_ret ?_
  | ((with_reducible apply q_rtE); (focus (with_reducible exact rfl)))
  | with_reducible refine q_next ?_
  | with_reducible refine q_ifF ?_
  | with_reducible refine q_ifT ?_
  | with_reducible refine q_drop ?_
  | with_reducible refine q_and ?_
  | with_reducible refine q_or ?_
  | with_reducible refine q_andT ?_
  | with_reducible refine q_andF ?_
  | with_reducible refine q_orF ?_
  | with_reducible refine q_orT ?_
  | with_reducible refine q_andV ?_
  | with_reducible refine q_andVT ?_
  | with_reducible refine q_andVF ?_
  | with_reducible refine q_orV ?_
  | with_reducible refine q_gCons ?_
  | with_reducible refine q_gNil ?_
  | with_reducible refine q_tup ?_
  | with_reducible refine q_lst ?_
  | with_reducible refine q_not ?_
  | with_reducible refine q_notKT ?_
  | with_reducible refine q_notKF ?_
  | with_reducible refine q_I0 ?_
  | with_reducible refine q_eqI ?_
  | with_reducible refine q_neI ?_
  | ((with_reducible refine q_I ?_ ?_); first | decide | omega | exact ⟨by omega, by omega⟩ | exact ⟨by decide, by decide⟩ | exact .inl ⟨by omega, by omega⟩ | exact .inr ⟨by omega, by omega⟩ | exact .inr ⟨by decide, by decide⟩)
  | with_reducible refine q_eqS ?_
  | with_reducible refine q_neS ?_
  | with_reducible refine q_brk ?_
  | with_reducible refine q_ct ?_
  | ((with_reducible apply q_bkE); (focus (with_reducible exact rfl)))
  | ((with_reducible apply q_cnE); (focus (with_reducible exact rfl)))
  | with_reducible refine q_retN ?_
  | with_reducible refine q_gSub ?_
  | with_reducible refine q_for ?_
  | with_reducible refine q_iList ?_
  | with_reducible refine q_iTup ?_
  | with_reducible refine q_iRng1 ?_
  | with_reducible refine q_notK ?_
  | with_reducible refine q_orVT ?_
  | with_reducible refine q_orVF ?_
  | with_reducible refine q_notV ?_
  | with_reducible refine q_notVK ?_
  | with_reducible refine q_ifE ?_
  | with_reducible refine q_ifET ?_
  | with_reducible refine q_ifEF ?_
  | with_reducible refine q_yes ?_
  | with_reducible refine q_un ?_
  | with_reducible refine q_rU ?_
  | with_reducible refine q_abs ?_
  | with_reducible refine q_int1 ?_
  | with_reducible refine q_bm ?_
  | with_reducible refine q_bm0 ?_
  | with_reducible refine q_lc ?_
  | with_reducible refine q_keepT ?_
  | with_reducible refine q_keepF ?_
  | ((with_reducible apply q_aug); (focus (exact rfl)))
  | with_reducible refine q_ipI ?_
  | with_reducible refine q_chain ?_
  | with_reducible refine q_pairC ?_
  | with_reducible refine q_pairsK ?_
  | with_reducible refine q_pairN ?_
  | with_reducible refine q_fld ?_
  | with_reducible refine q_sFld ?_
  | with_reducible refine q_meth ?_
  | with_reducible refine q_makeK ?_
  | with_reducible refine q_isBl ?_
  | with_reducible refine q_notBl ?_
  | with_reducible refine q_sl ?_
  | with_reducible refine q_noPart ?_
  | with_reducible refine q_part ?_
  | with_reducible refine q_partK ?_
  | ((with_reducible apply q_mulStr); (focus (decide +kernel)))
  | with_reducible refine q_chT ?_
  | with_reducible refine q_chF ?_
  | with_reducible refine q_ord ?_
  | with_reducible refine q_iStr0 ?_
  | with_reducible refine q_iStr ?_
  | with_reducible refine q_tDIn ?_
  | with_reducible refine q_tDNotIn ?_
  | with_reducible refine q_tDGet ?_
  | with_reducible refine q_tDGet2 ?_
  | with_reducible refine q_tDGet1 ?_
  | with_reducible refine q_tDSetd ?_
  | ((with_reducible apply q_dG2a); (focus ((repeat first | (with_reducible exact upd_same) | (with_reducible assumption) | (with_reducible apply upd_new (by assumption)) | (with_reducible apply upd_other (by first | assumption | exact Ne.symm (by assumption))) | (with_reducible refine' Kp.get (by assumption) ?_ (by first | assumption | exact Ne.symm (by assumption))) | (with_reducible apply Same.get (by assumption))); done)))
  | ((with_reducible apply q_dSda); (focus ((repeat first | (with_reducible exact upd_same) | (with_reducible assumption) | (with_reducible apply upd_new (by assumption)) | (with_reducible apply upd_other (by first | assumption | exact Ne.symm (by assumption))) | (with_reducible refine' Kp.get (by assumption) ?_ (by first | assumption | exact Ne.symm (by assumption))) | (with_reducible apply Same.get (by assumption))); done)))
  | with_reducible refine q_sDPut ?_
  | ((with_reducible apply q_dInS); (focus ((repeat first | (with_reducible exact upd_same) | (with_reducible assumption) | (with_reducible apply upd_new (by assumption)) | (with_reducible apply upd_other (by first | assumption | exact Ne.symm (by assumption))) | (with_reducible refine' Kp.get (by assumption) ?_ (by first | assumption | exact Ne.symm (by assumption))) | (with_reducible apply Same.get (by assumption))); done)))
  | ((with_reducible apply q_dNInS); (focus ((repeat first | (with_reducible exact upd_same) | (with_reducible assumption) | (with_reducible apply upd_new (by assumption)) | (with_reducible apply upd_other (by first | assumption | exact Ne.symm (by assumption))) | (with_reducible refine' Kp.get (by assumption) ?_ (by first | assumption | exact Ne.symm (by assumption))) | (with_reducible apply Same.get (by assumption))); done)))
  | ((with_reducible apply q_dInI); (focus ((repeat first | (with_reducible exact upd_same) | (with_reducible assumption) | (with_reducible apply upd_new (by assumption)) | (with_reducible apply upd_other (by first | assumption | exact Ne.symm (by assumption))) | (with_reducible refine' Kp.get (by assumption) ?_ (by first | assumption | exact Ne.symm (by assumption))) | (with_reducible apply Same.get (by assumption))); done)))
  | ((with_reducible apply q_dNInI); (focus ((repeat first | (with_reducible exact upd_same) | (with_reducible assumption) | (with_reducible apply upd_new (by assumption)) | (with_reducible apply upd_other (by first | assumption | exact Ne.symm (by assumption))) | (with_reducible refine' Kp.get (by assumption) ?_ (by first | assumption | exact Ne.symm (by assumption))) | (with_reducible apply Same.get (by assumption))); done)))
  | ((with_reducible apply q_bmL); (focus ((repeat first | (with_reducible exact upd_same) | (with_reducible assumption) | (with_reducible apply upd_new (by assumption)) | (with_reducible apply upd_other (by first | assumption | exact Ne.symm (by assumption))) | (with_reducible refine' Kp.get (by assumption) ?_ (by first | assumption | exact Ne.symm (by assumption))) | (with_reducible apply Same.get (by assumption))); done)))
  | ((with_reducible apply q_bmL0); (focus ((repeat first | (with_reducible exact upd_same) | (with_reducible assumption) | (with_reducible apply upd_new (by assumption)) | (with_reducible apply upd_other (by first | assumption | exact Ne.symm (by assumption))) | (with_reducible refine' Kp.get (by assumption) ?_ (by first | assumption | exact Ne.symm (by assumption))) | (with_reducible apply Same.get (by assumption))); done)))
  | ((with_reducible apply q_ixLt); (focus ((repeat first | (with_reducible exact upd_same) | (with_reducible assumption) | (with_reducible apply upd_new (by assumption)) | (with_reducible apply upd_other (by first | assumption | exact Ne.symm (by assumption))) | (with_reducible refine' Kp.get (by assumption) ?_ (by first | assumption | exact Ne.symm (by assumption))) | (with_reducible apply Same.get (by assumption))); done)); (focus (exact rfl)))
  | ((with_reducible apply q_ixTt); (focus ((repeat first | (with_reducible exact upd_same) | (with_reducible assumption) | (with_reducible apply upd_new (by assumption)) | (with_reducible apply upd_other (by first | assumption | exact Ne.symm (by assumption))) | (with_reducible refine' Kp.get (by assumption) ?_ (by first | assumption | exact Ne.symm (by assumption))) | (with_reducible apply Same.get (by assumption))); done)); (focus (exact rfl)))
  | ((with_reducible apply q_lenLt); (focus ((repeat first | (with_reducible exact upd_same) | (with_reducible assumption) | (with_reducible apply upd_new (by assumption)) | (with_reducible apply upd_other (by first | assumption | exact Ne.symm (by assumption))) | (with_reducible refine' Kp.get (by assumption) ?_ (by first | assumption | exact Ne.symm (by assumption))) | (with_reducible apply Same.get (by assumption))); done)))
  | ((with_reducible apply q_lenTt); (focus ((repeat first | (with_reducible exact upd_same) | (with_reducible assumption) | (with_reducible apply upd_new (by assumption)) | (with_reducible apply upd_other (by first | assumption | exact Ne.symm (by assumption))) | (with_reducible refine' Kp.get (by assumption) ?_ (by first | assumption | exact Ne.symm (by assumption))) | (with_reducible apply Same.get (by assumption))); done)))
  | ((with_reducible apply q_append); (focus ((repeat first | (with_reducible exact upd_same) | (with_reducible assumption) | (with_reducible apply upd_new (by assumption)) | (with_reducible apply upd_other (by first | assumption | exact Ne.symm (by assumption))) | (with_reducible refine' Kp.get (by assumption) ?_ (by first | assumption | exact Ne.symm (by assumption))) | (with_reducible apply Same.get (by assumption))); done)); (focus ((first | (exact Nat.lt_of_ble_eq_true rfl) | (simp only [List.length_append, List.length_cons, List.length_nil, List.length_map]; exact small1000 (by omega))))))
  | ((with_reducible apply q_setL); (focus ((repeat first | (with_reducible exact upd_same) | (with_reducible assumption) | (with_reducible apply upd_new (by assumption)) | (with_reducible apply upd_other (by first | assumption | exact Ne.symm (by assumption))) | (with_reducible refine' Kp.get (by assumption) ?_ (by first | assumption | exact Ne.symm (by assumption))) | (with_reducible apply Same.get (by assumption))); done)); (focus (exact rfl)))
  | with_reducible refine q_ifNT ?_
  | with_reducible refine q_ifNF ?_
  | with_reducible refine q_andNT ?_
  | with_reducible refine q_andNF ?_
  | with_reducible refine q_orNT ?_
  | with_reducible refine q_orNF ?_
  | with_reducible refine q_bKNT ?_
  | with_reducible refine q_bKNF ?_
  | with_reducible refine q_tNGet ?_
  | with_reducible refine q_tNIn ?_
  | with_reducible refine q_sNPut ?_
  | with_reducible refine q_sFldAug ?_
  | with_reducible refine q_sDAug ?_
  | with_reducible refine q_sDDel ?_
  | with_reducible refine q_forX ?_
  | with_reducible refine q_tMake ?_
  | ((with_reducible apply q_dG1a); (focus ((repeat first | (with_reducible exact upd_same) | (with_reducible assumption) | (with_reducible apply upd_new (by assumption)) | (with_reducible apply upd_other (by first | assumption | exact Ne.symm (by assumption))) | (with_reducible refine' Kp.get (by assumption) ?_ (by first | assumption | exact Ne.symm (by assumption))) | (with_reducible apply Same.get (by assumption))); done)))))
/-! the law's configuration -/
theorem RowsAt.pot {α : Type} {f : α → List V} {H H' : Hp} {xs : List V} {rs : List α} {p l : Addr} (h : RowsAt f H xs rs) (pot : PotAt H p l) (k : Kp p H H') : RowsAt f H' xs rs := h.mono fun b ys q => k.tup pot q
theorem RowsAt.updL {α : Type} {f : α → List V} {H : Hp} {xs ys zs : List V} {rs : List α} {F : Addr} (h : RowsAt f H xs rs) (hF : H F = some (.lst ys)) : RowsAt f (upd H F (.lst zs)) xs rs := h.mono fun b ws q => upd_other (ne_of q hF (by intro z; cases z)) q
theorem RowsAt.new {α : Type} {f : α → List V} {H : Hp} {xs : List V} {rs : List α} {F : Addr} {o : HO} (h : RowsAt f H xs rs) (hF : H F = none) : RowsAt f (upd H F o) xs rs := h.mono fun b ws q => upd_new hF q
theorem menu {l : List V} {r : Int} (h0 : 0 ≤ r) (h1 : r < l.length) : ∃ v, atI l r = some v ∧ v ∈ l :=
  ⟨l[r.toNat]'(by omega), at_int (n := r.toNat) (by omega) (List.getElem?_eq_getElem _), List.getElem_mem _⟩
theorem menuS {ss : List Str} {r : Int} (h0 : 0 ≤ r) (h1 : r < ss.length) : ∃ s, atI (ss.map V.str) r = some (.str s) ∧ s ∈ ss := by
  obtain ⟨v, h, m⟩ := menu (l := ss.map V.str) h0 (by rw [List.length_map]; exact h1)
  obtain ⟨s, hs, rfl⟩ := List.mem_map.mp m
  exact ⟨s, h, hs⟩
theorem menuI {ss : List Int} {r : Int} (h0 : 0 ≤ r) (h1 : r < ss.length) : ∃ s, atI (ss.map V.int) r = some (.int s) ∧ s ∈ ss := by
  obtain ⟨v, h, m⟩ := menu (l := ss.map V.int) h0 (by rw [List.length_map]; exact h1)
  obtain ⟨s, hs, rfl⟩ := List.mem_map.mp m
  exact ⟨s, h, hs⟩
def tokNames : List Str := ["coin", "gold", "iron"]
def accNames : List Str := ["ann", "bob", "cyd"]
def sideNames : List Str := ["west", "east"]
def scales : List Int := [1, 1, 7, 1000]
def limits : List Int := [10 ^ (9 : Int).toNat, 10 ^ (9 : Int).toNat, 5, 0]
def larges : List Int := [10 ^ (9 : Int).toNat, 30, 3, 1]
def amounts : List Int := [0, 5, 40, 5000, 10 ^ (6 : Int).toNat]
theorem tokNames_ok : ∀ z ∈ tokNames, shortD 12 (.str z) = true ∧ z.length ≤ 12 := by decide +kernel
theorem accNames_ok : ∀ z ∈ accNames, accD (.str z) = true ∧ z.length ≤ 20 := by decide +kernel
theorem sideNames_ok : ∀ z ∈ sideNames, sideD (.str z) = true := by decide +kernel
theorem scales_ok : ∀ z ∈ scales, 1 ≤ z ∧ z ≤ 1000 := by decide
theorem limits_ok : ∀ z ∈ limits, 0 ≤ z := by decide
theorem larges_ok : ∀ z ∈ larges, 1 ≤ z := by decide
theorem amounts_ok : ∀ z ∈ amounts, 0 ≤ z ∧ z ≤ 1000000 := by decide
theorem tokNames_nd : tokNames.Nodup := by decide +kernel
theorem gnames_ok : ∀ z ∈ allNames, accD (.str z) = true ∧ z.length ≤ 20 ∧ PyData.strOk z = true := by decide +kernel
/-- what is drawn -/
structure CfgOk (c : Parts) (gs : Gs) : Prop where
  ok : c.Ok
  ne : c.toks ≠ []
  tn : ∀ t ∈ c.toks, t.name ∈ tokNames
  th : ∀ t ∈ c.toks, t.home ∈ sideNames
  ts : ∀ t ∈ c.toks, t.scale ≤ 1000
  tl : c.toks.length ≤ 3
  gd : Drawn gs
  ba : ∀ b ∈ c.bals, b.acc ∈ accNames ∨ (gs[0]?).map (·.1) = some b.acc
  bm : ∀ b ∈ c.bals, b.amt ≤ 1000000
  bl : c.bals.length ≤ 10
  d : c.depth ≤ 3
  w : c.window ≤ 4
  y : c.delay ≤ 3
  u : c.bundle ≤ 3
  la : ∃ (bs : List BalR) (t0 : TokR) (g0 : Str × Int), c.toks[0]? = some t0 ∧ gs[0]? = some g0 ∧ c.bals = bs ++ [⟨g0.1, t0.name, 60⟩] ∧ ∀ b ∈ bs, b.acc ∈ accNames
def partKvs (tl bl g : Addr) (c : Parts) : List (Key × V) := [(Sum.inr "tokens", .ref tl), (Sum.inr "balances", .ref bl), (Sum.inr "guards", .ref g), (Sum.inr "depth", .int c.depth), (Sum.inr "window", .int c.window), (Sum.inr "delay", .int c.delay), (Sum.inr "bundle", .int c.bundle)]
theorem part_nd (tl bl g : Addr) (c : Parts) : ((partKvs tl bl g c).map (·.1)).Nodup := by
  show ([Sum.inr "tokens", Sum.inr "balances", Sum.inr "guards", Sum.inr "depth", Sum.inr "window", Sum.inr "delay", Sum.inr "bundle"] : List Key).Nodup
  decide +kernel
structure PartsAt (H : Hp) (d : Addr) (c : Parts) (gs : Gs) (tl bl g : Addr) (tv bv gv : List V) : Prop where
  dict : H d = some (.dK (partKvs tl bl g c))
  tl : H tl = some (.lst tv)
  tr : RowsAt TokR.v H tv c.toks
  bl : H bl = some (.lst bv)
  br : RowsAt BalR.v H bv c.bals
  gt : H g = some (.tup gv)
  gp : PairsAt H gv gs
theorem PartsAt.same {H H' : Hp} {d : Addr} {c : Parts} {gs : Gs} {tl bl g : Addr} {tv bv gv : List V} (h : PartsAt H d c gs tl bl g tv bv gv) (e : Same H H') : PartsAt H' d c gs tl bl g tv bv gv :=
  ⟨e _ _ h.dict, e _ _ h.tl, h.tr.same e, e _ _ h.bl, h.br.same e, e _ _ h.gt, h.gp.same e⟩
def sp_Lconfig : Sp := fun vs H Q _ => ∃ (p l : Addr), vs = [.ref p] ∧ PotAt H p l ∧ ∀ (d : Addr) (c : Parts) (gs : Gs) (tl bl g : Addr) (tv bv gv : List V) (H' : Hp), H d = none → H tl = none → H bl = none → PartsAt H' d c gs tl bl g tv bv gv → CfgOk c gs → PotAt H' p l → Kp p H H' → Q (.ref d) H'
section
variable {P : Program} {w : World} {K : PySem.W.Frag} {mg : Str → Option Value} {base : Heap}
theorem ok_L_config (T : Txt K mg) : FnOk P w K mg base CX0 3 T.f_L_config T.d_L_config ["pot"] sp_Lconfig := by
  refine T.F_L_config.ok sc_L_config (fun vs H Q E h => ?_) (fun cdv A outer s H vs Q E hr h => ?_)
  · obtain ⟨p, l, rfl, _⟩ := h; rfl
  · obtain ⟨p, l, rfl, pot, k⟩ := h
    obtain ⟨po, hpo⟩ := pot.at
    refine ⟨_, (pss_cons (ps_set (i := 1) sc_L_config.nd rfl (Or.inl rfl) (pe_lst pa_nil))
      (pss_cons (ps_for PassesOwn.never rfl (pi_list (pe_slice sl_list (pe_lst (pa_cons pe_str (pa_cons pe_str (pa_cons pe_str pa_nil)))) po_none (po_some (pe_op op_add pe_int (pe_call (ok_L_next T) (hr.mono (by decide)) (by rfl) T.g_L_next T.F_L_next.kp T.b_L_next .nil pass0 (pa_cons (pv 0) (pa_cons pe_int pa_nil))))))) (pg_name (i := 2) sc_L_config.nd rfl (Or.inl rfl))
        (pss_one (ps_expr (pe_bm PySem.F.plainAttrs_list PySem.F.slot_list_append PySem.F.type_list_append mt_append (pv 1) (pa_cons (pe_tup (pa_cons (pv 2) (pa_cons (pe_ix ix_list (pe_lst (pa_cons pe_str (pa_cons pe_str pa_nil))) (pe_call (ok_L_next T) (hr.mono (by decide)) (by rfl) T.g_L_next T.F_L_next.kp T.b_L_next .nil pass0 (pa_cons (pv 0) (pa_cons pe_int pa_nil))) (fun _ _ => rfl)) (pa_cons (pe_ix ix_list (pe_lst (pa_cons pe_int (pa_cons pe_int (pa_cons pe_int (pa_cons pe_int pa_nil))))) (pe_call (ok_L_next T) (hr.mono (by decide)) (by rfl) T.g_L_next T.F_L_next.kp T.b_L_next .nil pass0 (pa_cons (pv 0) (pa_cons pe_int pa_nil))) (fun _ _ => rfl)) (pa_cons (pe_ix ix_list (pe_lst (pa_cons (pe_op op_pow pe_int pe_int) (pa_cons (pe_op op_pow pe_int pe_int) (pa_cons pe_int (pa_cons pe_int pa_nil))))) (pe_call (ok_L_next T) (hr.mono (by decide)) (by rfl) T.g_L_next T.F_L_next.kp T.b_L_next .nil pass0 (pa_cons (pv 0) (pa_cons pe_int pa_nil))) (fun _ _ => rfl)) (pa_cons (pe_ix ix_list (pe_lst (pa_cons (pe_op op_pow pe_int pe_int) (pa_cons pe_int (pa_cons pe_int (pa_cons pe_int pa_nil))))) (pe_call (ok_L_next T) (hr.mono (by decide)) (by rfl) T.g_L_next T.F_L_next.kp T.b_L_next .nil pass0 (pa_cons (pv 0) (pa_cons pe_int pa_nil))) (fun _ _ => rfl)) pa_nil)))))) pa_nil)))))
      (pss_cons (ps_set (i := 3) sc_L_config.nd rfl (Or.inl rfl) (pe_lst pa_nil))
      (pss_cons (ps_for PassesOwn.never rfl (pi_list (pe_lst (pa_cons pe_str (pa_cons pe_str (pa_cons pe_str pa_nil))))) (pg_name (i := 4) sc_L_config.nd rfl (Or.inl rfl))
        (pss_one (ps_for PassesOwn.never rfl (pi_list (pv 1)) (pg_name (i := 6) sc_L_config.nd rfl (Or.inl rfl))
        (pss_one (ps_expr (pe_bm PySem.F.plainAttrs_list PySem.F.slot_list_append PySem.F.type_list_append mt_append (pv 3) (pa_cons (pe_tup (pa_cons (pv 4) (pa_cons (pe_ix ix_tup (pv 6) pe_int (fun _ _ => rfl)) (pa_cons (pe_ix ix_list (pe_lst (pa_cons pe_int (pa_cons pe_int (pa_cons pe_int (pa_cons pe_int (pa_cons (pe_op op_pow pe_int pe_int) pa_nil)))))) (pe_call (ok_L_next T) (hr.mono (by decide)) (by rfl) T.g_L_next T.F_L_next.kp T.b_L_next .nil pass0 (pa_cons (pv 0) (pa_cons pe_int pa_nil))) (fun _ _ => rfl)) pa_nil)))) pa_nil)))))))
      (pss_cons (ps_set (i := 5) sc_L_config.nd rfl (Or.inl rfl) (pe_call (ok_L_set T) (hr.mono (by decide)) (by rfl) T.g_L_set T.F_L_set.kp T.b_L_set .nil pass0 (pa_cons (pv 0) (pa_cons pe_int pa_nil))))
      (pss_cons (ps_expr (pe_bm PySem.F.plainAttrs_list PySem.F.slot_list_append PySem.F.type_list_append mt_append (pv 3) (pa_cons (pe_tup (pa_cons (pe_ix ix_tup (pe_ix ix_tup (pv 5) pe_int (fun _ _ => rfl)) pe_int (fun _ _ => rfl)) (pa_cons (pe_ix ix_tup (pe_ix ix_list (pv 1) pe_int (fun _ _ => rfl)) pe_int (fun _ _ => rfl)) (pa_cons pe_int pa_nil)))) pa_nil)))
      (pss_one (ps_ret (pe_disp (pps_cons pe_str (pv 1) (pps_cons pe_str (pv 3) (pps_cons pe_str (pv 5) (pps_cons pe_str (pe_op op_add pe_int (pe_call (ok_L_next T) (hr.mono (by decide)) (by rfl) T.g_L_next T.F_L_next.kp T.b_L_next .nil pass0 (pa_cons (pv 0) (pa_cons pe_int pa_nil)))) (pps_cons pe_str (pe_op op_add pe_int (pe_call (ok_L_next T) (hr.mono (by decide)) (by rfl) T.g_L_next T.F_L_next.kp T.b_L_next .nil pass0 (pa_cons (pv 0) (pa_cons pe_int pa_nil)))) (pps_cons pe_str (pe_call (ok_L_next T) (hr.mono (by decide)) (by rfl) T.g_L_next T.F_L_next.kp T.b_L_next .nil pass0 (pa_cons (pv 0) (pa_cons pe_int pa_nil))) (pps_cons pe_str (pe_op op_add pe_int (pe_call (ok_L_next T) (hr.mono (by decide)) (by rfl) T.g_L_next T.F_L_next.kp T.b_L_next .nil pass0 (pa_cons (pv 0) (pa_cons pe_int pa_nil)))) pps_nil))))))) (by rfl) (by rfl) (fun z => by cases z) (by decide)))))))))), ?_⟩
    (dsimp only [cxOf, Cx.nox, Cx.wish, L2.start, List.map, List.length, List.replicate, List.cons_append, List.nil_append, List.append_eq, Nat.reduceSub, Nat.reduceAdd])
    walk_at "my_rd"
    refine q_lstK (Nat.le_of_ble_eq_true rfl) fun TL nTL => ?_
    walk_at "my_rd"
    refine q_lstK (Nat.le_of_ble_eq_true rfl) fun NM nNM => ?_
    walk_at "my_rd"
    have nTLp : TL ≠ p := pot.nep nTL
    have nTLl : TL ≠ l := pot.nel nTL
    have pot1 : PotAt (upd (upd H TL (.lst [])) NM (.lst [.str "coin", .str "gold", .str "iron"])) p l := (pot.new nTL).new nNM
    have nNMp : NM ≠ p := (pot.new nTL).nep nNM
    refine ⟨p, l, 3, rfl, pot1, by omega, by omega, fun r H1 r0 r1 pot1 kp1 => ?_⟩
    have hTL1 : H1 TL = some (.lst []) := Kp.get kp1 (upd_new nNM upd_same) nTLp
    have hNM1 : H1 NM = some (.lst (tokNames.map V.str)) := Kp.get kp1 upd_same nNMp
    have kp01 : Kp p H H1 := Kp.trans (Same.kp (Same.up (Same.up (Same.refl _) nTL) nNM)) kp1
    walk_at "my_rd"
    refine q_slL (sqL hNM1) fun SL nSL => ?_
    have er : 1 + r = ((r.toNat + 1 : Nat) : Int) := by omega
    rw [er, cut_take (by rw [List.length_map]; show r.toNat + 1 ≤ 3; omega), ← List.map_take]
    have hlen : (tokNames.take (r.toNat + 1)).length = r.toNat + 1 := by rw [List.length_take]; show min (r.toNat + 1) 3 = _; omega
    generalize hH2 : upd H1 SL _ = H2
    have nSLp : SL ≠ p := pot1.nep nSL
    have nSLTL : TL ≠ SL := ne_of_none hTL1 nSL
    have hSL2 : H2 SL = some (.lst ((tokNames.take (r.toNat + 1)).map V.str)) := by rw [← hH2]; exact upd_same
    have hTL2 : H2 TL = some (.lst []) := by rw [← hH2]; exact upd_new nSL hTL1
    have pot2 : PotAt H2 p l := by rw [← hH2]; exact pot1.new nSL
    have kp02 : Kp p H H2 := by rw [← hH2]; exact Kp.new kp01 (Kp.fresh kp01 hpo nSL nSLp)
    walk_at "my_rd"
    refine q_forL (sqL hSL2) (fun i σ H' => ∃ (tv : List V) (ts : List TokR) (nv : Option V), σ = [some (.ref p), some (.ref TL), nv, none, none, none, none] ∧ H' TL = some (.lst tv) ∧ RowsAt TokR.v H' tv ts ∧ ts.map TokR.name = (tokNames.take (r.toNat + 1)).take i ∧ (∀ t ∈ ts, t.Ok) ∧ (∀ t ∈ ts, t.home ∈ sideNames) ∧ (∀ t ∈ ts, t.scale ≤ 1000) ∧
        H' SL = some (.lst ((tokNames.take (r.toNat + 1)).map V.str)) ∧ PotAt H' p l ∧ Kp p H H')
      ⟨[], [], none, rfl, hTL2, RowsAt.nil, rfl, by simp, by simp, by simp, hSL2, pot2, kp02⟩ (fun i σ H' _ ⟨_, _, _, _, _, _, _, _, _, _, h, _⟩ => sqL h) ?_ ?_
    · rintro i v σ H3 hv ⟨tv, ts, nv, rfl, hTL3, hR3, hnm, hok, hho, hsc, hSL3, pot3, kp3⟩
      have hi : i < r.toNat + 1 := by
        have := (List.getElem?_eq_some_iff.mp hv).1
        rw [List.length_map, hlen] at this
        exact this
      obtain ⟨nme, hnme, rfl⟩ : ∃ s, (tokNames.take (r.toNat + 1))[i]? = some s ∧ v = .str s := by
        rw [List.getElem?_map] at hv
        cases q : (tokNames.take (r.toNat + 1))[i]? with
        | none => rw [q] at hv; cases hv
        | some s => rw [q] at hv; exact ⟨s, rfl, (Option.some.inj hv).symm⟩
      have hmem : nme ∈ tokNames := List.mem_of_mem_take (List.mem_of_getElem? hnme)
      have hlts : ts.length = i := by
        have := congrArg List.length hnm
        rw [List.length_map, List.length_take, hlen] at this
        omega
      walk_at "my_rd"
      refine q_lstK (Nat.le_of_ble_eq_true rfl) fun M1 nM1 => ?_
      walk_at "my_rd"
      refine ⟨p, l, 2, rfl, pot3.new nM1, by omega, by omega, fun a1 H4 x0 x1 pot4 kp4 => ?_⟩
      obtain ⟨ho, hho1, hmho⟩ := menuS (ss := sideNames) x0 (by show a1 < 2; omega)
      have kp14 : Kp p H3 H4 := Kp.trans (Same.kp (Same.up (Same.refl _) nM1)) kp4
      walk_at "my_rd"
      refine q_ixLt (Kp.get kp4 upd_same (pot3.nep nM1)) hho1 ?_
      walk_at "my_rd"
      refine q_lstK (Nat.le_of_ble_eq_true rfl) fun M2 nM2 => ?_
      walk_at "my_rd"
      refine ⟨p, l, 4, rfl, pot4.new nM2, by omega, by omega, fun a2 H5 x2 x3 pot5 kp5 => ?_⟩
      obtain ⟨sc, hsc1, hmsc⟩ := menuI (ss := scales) x2 (by show a2 < 4; omega)
      have kp15 : Kp p H3 H5 := Kp.trans kp14 (Kp.trans (Same.kp (Same.up (Same.refl _) nM2)) kp5)
      walk_at "my_rd"
      refine q_ixLt (Kp.get kp5 upd_same (pot4.nep nM2)) hsc1 ?_
      walk_at "my_rd"
      refine q_lstK (Nat.le_of_ble_eq_true rfl) fun M3 nM3 => ?_
      walk_at "my_rd"
      refine ⟨p, l, 4, rfl, pot5.new nM3, by omega, by omega, fun a3 H6 x4 x5 pot6 kp6 => ?_⟩
      obtain ⟨li, hli1, hmli⟩ := menuI (ss := limits) x4 (by show a3 < 4; omega)
      have kp16 : Kp p H3 H6 := Kp.trans kp15 (Kp.trans (Same.kp (Same.up (Same.refl _) nM3)) kp6)
      walk_at "my_rd"
      refine q_ixLt (Kp.get kp6 upd_same (pot5.nep nM3)) hli1 ?_
      walk_at "my_rd"
      refine q_lstK (Nat.le_of_ble_eq_true rfl) fun M4 nM4 => ?_
      walk_at "my_rd"
      refine ⟨p, l, 4, rfl, pot6.new nM4, by omega, by omega, fun a4 H7 x6 x7 pot7 kp7 => ?_⟩
      obtain ⟨la, hla1, hmla⟩ := menuI (ss := larges) x6 (by show a4 < 4; omega)
      have kp17 : Kp p H3 H7 := Kp.trans kp16 (Kp.trans (Same.kp (Same.up (Same.refl _) nM4)) kp7)
      have kp07 : Kp p H H7 := Kp.trans kp3 kp17
      walk_at "my_rd"
      refine q_ixLt (Kp.get kp7 upd_same (pot6.nep nM4)) hla1 ?_
      walk_at "my_rd"
      refine q_tupK (Nat.le_of_ble_eq_true rfl) fun U nU => ?_
      walk_at "my_rd"
      have hTL7 : H7 TL = some (.lst tv) := Kp.get kp17 hTL3 nTLp
      have hSL7 := Kp.get kp17 hSL3 nSLp
      have nTLU : TL ≠ U := ne_of_none hTL7 nU
      have hU0 := Kp.fresh kp07 hpo nU (pot7.nep nU)
      refine q_append (upd_new nU hTL7) (by rw [hR3.len, hlts]; exact small1000 (by omega)) ?_
      walk_at "my_rd"
      have hR7 : RowsAt TokR.v (upd H7 U (.tup [.str nme, .str ho, .int sc, .int li, .int la])) (tv ++ [.ref U]) (ts ++ [⟨nme, ho, sc, li, la⟩]) := ((hR3.pot pot3 kp17).new nU).snoc upd_same
      refine ⟨tv ++ [.ref U], ts ++ [⟨nme, ho, sc, li, la⟩], _, rfl, upd_same, hR7.updL (upd_new nU hTL7), ?_, ?_, ?_, ?_, upd_other nSLTL.symm (upd_new nU hSL7), (pot7.new nU).upd nTLp nTLl, Kp.new (Kp.new kp07 hU0) nTL⟩
      · rw [List.map_append, hnm, take_snoc hnme]
        rfl
      · intro t ht
        rcases List.mem_append.mp ht with h | h
        · exact hok t h
        · rw [List.mem_singleton.mp h]
          exact ⟨(tokNames_ok _ hmem).1, (tokNames_ok _ hmem).2, sideNames_ok _ hmho, (scales_ok _ hmsc).1, limits_ok _ hmli, larges_ok _ hmla⟩
      · intro t ht
        rcases List.mem_append.mp ht with h | h
        · exact hho t h
        · rw [List.mem_singleton.mp h]; exact hmho
      · intro t ht
        rcases List.mem_append.mp ht with h | h
        · exact hsc t h
        · rw [List.mem_singleton.mp h]; exact (scales_ok _ hmsc).2
    · rintro σ H3 ⟨tv, ts, nv, rfl, hTL3, hR3, hnm, hok, hho, hsc, hSL3, pot3, kp3⟩
      have hnm2 : ts.map TokR.name = tokNames.take (r.toNat + 1) := by
        rw [hnm]
        exact List.take_of_length_le (by rw [List.length_map]; exact Nat.le_refl _)
      have hlts : ts.length = r.toNat + 1 := by
        have := congrArg List.length hnm2
        rw [List.length_map, hlen] at this
        exact this
      walk_at "my_rd"
      refine q_lstK (Nat.le_of_ble_eq_true rfl) fun BL nBL => ?_
      walk_at "my_rd"
      have nBLp : BL ≠ p := pot3.nep nBL
      have nBLl : BL ≠ l := pot3.nel nBL
      have nTLBL : TL ≠ BL := ne_of_none hTL3 nBL
      have hBL0 := Kp.fresh kp3 hpo nBL nBLp
      refine q_lstK (Nat.le_of_ble_eq_true rfl) fun AC nAC => ?_
      walk_at "my_rd"
      have nBLAC : BL ≠ AC := ne_of_none upd_same nAC
      have nTLAC : TL ≠ AC := ne_of_none (upd_new nBL hTL3) nAC
      generalize hH4 : upd (upd H3 BL _) AC _ = H4
      have hAC4 : H4 AC = some (.lst (accNames.map V.str)) := by rw [← hH4]; exact upd_same
      have hBL4 : H4 BL = some (.lst []) := by rw [← hH4]; exact upd_new nAC upd_same
      have hTL4 : H4 TL = some (.lst tv) := by rw [← hH4]; exact upd_new nAC (upd_new nBL hTL3)
      have pot4 : PotAt H4 p l := by rw [← hH4]; exact (pot3.new nBL).new nAC
      have nACp : AC ≠ p := (pot3.new nBL).nep nAC
      have sm4 : Same H3 H4 := by rw [← hH4]; (repeat first | (with_reducible exact Same.refl _) | (with_reducible assumption) | (with_reducible refine Same.up ?_ (by assumption)) | (with_reducible refine' Same.trans ?_ (by assumption)))
      have kp4 : Kp p H H4 := Kp.trans kp3 (Same.kp sm4)
      have hR4 : RowsAt TokR.v H4 tv ts := hR3.same sm4
      clear hH4
      refine q_forL (sqL hAC4) (fun i σ H' => ∃ (bv : List V) (bs : List BalR) (av tkv : Option V), σ = [some (.ref p), some (.ref TL), nv, some (.ref BL), av, none, tkv] ∧ H' BL = some (.lst bv) ∧ RowsAt BalR.v H' bv bs ∧ bs.length ≤ i * ts.length ∧ (∀ b ∈ bs, b.Ok ts) ∧ (∀ b ∈ bs, b.acc ∈ accNames) ∧ (∀ b ∈ bs, b.amt ≤ 1000000) ∧
          H' AC = some (.lst (accNames.map V.str)) ∧ H' TL = some (.lst tv) ∧ RowsAt TokR.v H' tv ts ∧ PotAt H' p l ∧ Kp p H H')
        ⟨[], [], _, _, rfl, hBL4, RowsAt.nil, by simp, by simp, by simp, by simp, hAC4, hTL4, hR4, pot4, kp4⟩ (fun i σ H' _ ⟨_, _, _, _, _, _, _, _, _, _, _, h, _⟩ => sqL h) ?_ ?_
      · rintro i v σ H5 hv ⟨bv, bs, av, tkv, rfl, hBL5, hB5, hbl, hbok, hba, hbm, hAC5, hTL5, hR5, pot5, kp5⟩
        obtain ⟨ac, hac, rfl⟩ : ∃ s, accNames[i]? = some s ∧ v = .str s := by
          rw [List.getElem?_map] at hv
          cases q : accNames[i]? with
          | none => rw [q] at hv; cases hv
          | some s => rw [q] at hv; exact ⟨s, rfl, (Option.some.inj hv).symm⟩
        have hacm := List.mem_of_getElem? hac
        have hi3 : i < 3 := (List.getElem?_eq_some_iff.mp hac).1
        walk_at "my_rd"
        refine q_forL (sqL hTL5) (fun j σ H' => ∃ (bv : List V) (bs : List BalR) (tkv : Option V), σ = [some (.ref p), some (.ref TL), nv, some (.ref BL), some (.str ac), none, tkv] ∧ H' BL = some (.lst bv) ∧ RowsAt BalR.v H' bv bs ∧ bs.length ≤ i * ts.length + j ∧ (∀ b ∈ bs, b.Ok ts) ∧ (∀ b ∈ bs, b.acc ∈ accNames) ∧ (∀ b ∈ bs, b.amt ≤ 1000000) ∧
            H' AC = some (.lst (accNames.map V.str)) ∧ H' TL = some (.lst tv) ∧ RowsAt TokR.v H' tv ts ∧ PotAt H' p l ∧ Kp p H H')
          ⟨bv, bs, _, rfl, hBL5, hB5, hbl, hbok, hba, hbm, hAC5, hTL5, hR5, pot5, kp5⟩ (fun i σ H' _ ⟨_, _, _, _, _, _, _, _, _, _, _, h, _⟩ => sqL h) ?_ ?_
        · rintro j v σ H6 hv ⟨bv, bs, tkv, rfl, hBL6, hB6, hbl, hbok, hba, hbm, hAC6, hTL6, hR6, pot6, kp6⟩
          obtain ⟨t, tr, ht, rfl, htr0⟩ := hR6.item hv
          have htr : H6 tr = some (.tup [.str t.name, .str t.home, .int t.scale, .int t.limit, .int t.large]) := htr0
          have htm := List.mem_of_getElem? ht
          have hj : j < ts.length := (List.getElem?_eq_some_iff.mp ht).1
          walk_at "my_rd"
          refine q_lstK (Nat.le_of_ble_eq_true rfl) fun M1 nM1 => ?_
          walk_at "my_rd"
          refine ⟨p, l, 5, rfl, pot6.new nM1, by omega, by omega, fun a1 H7 x0 x1 pot7 kp7 => ?_⟩
          obtain ⟨am, ham1, hmam⟩ := menuI (ss := amounts) x0 (by show a1 < 5; omega)
          have kp17 : Kp p H6 H7 := Kp.trans (Same.kp (Same.up (Same.refl _) nM1)) kp7
          have kp07 : Kp p H H7 := Kp.trans kp6 kp17
          walk_at "my_rd"
          refine q_ixLt (Kp.get kp7 upd_same (pot6.nep nM1)) ham1 ?_
          walk_at "my_rd"
          refine q_tupK (Nat.le_of_ble_eq_true rfl) fun U nU => ?_
          walk_at "my_rd"
          have hBL7 : H7 BL = some (.lst bv) := Kp.get kp17 hBL6 nBLp
          have hTL7 : H7 TL = some (.lst tv) := Kp.get kp17 hTL6 nTLp
          have hAC7 := Kp.get kp17 hAC6 nACp
          have hU0 := Kp.fresh kp07 hpo nU (pot7.nep nU)
          have hbnd : i * ts.length ≤ 9 := by
            have h1 : ts.length ≤ 3 := by omega
            have := Nat.mul_le_mul (show i ≤ 3 by omega) h1
            omega
          refine q_append (upd_new nU hBL7) (by rw [hB6.len]; exact small1000 (by omega)) ?_
          walk_at "my_rd"
          have hB7 : RowsAt BalR.v (upd H7 U (.tup [.str ac, .str t.name, .int am])) (bv ++ [.ref U]) (bs ++ [⟨ac, t.name, am⟩]) := ((hB6.pot pot6 kp17).new nU).snoc upd_same
          refine ⟨bv ++ [.ref U], bs ++ [⟨ac, t.name, am⟩], _, rfl, upd_same, hB7.updL (upd_new nU hBL7), by rw [List.length_append]; show bs.length + 1 ≤ _; omega, ?_, ?_, ?_, upd_other nBLAC.symm (upd_new nU hAC7), upd_other nTLBL (upd_new nU hTL7), ((hR6.pot pot6 kp17).new nU).updL (upd_new nU hBL7), (pot7.new nU).upd nBLp nBLl, Kp.new (Kp.new kp07 hU0) hBL0⟩
          · intro b hb
            rcases List.mem_append.mp hb with h | h
            · exact hbok b h
            · rw [List.mem_singleton.mp h]
              exact ⟨(accNames_ok _ hacm).1, (accNames_ok _ hacm).2, (hok t htm).n, (hok t htm).nl, List.mem_map.mpr ⟨t, htm, rfl⟩, (amounts_ok _ hmam).1⟩
          · intro b hb
            rcases List.mem_append.mp hb with h | h
            · exact hba b h
            · rw [List.mem_singleton.mp h]; exact hacm
          · intro b hb
            rcases List.mem_append.mp hb with h | h
            · exact hbm b h
            · rw [List.mem_singleton.mp h]; exact (amounts_ok _ hmam).2
        · rintro σ H6 ⟨bv, bs, tkv, rfl, hBL6, hB6, hbl, hbok, hba, hbm, hAC6, hTL6, hR6, pot6, kp6⟩
          walk_at "my_rd"
          refine ⟨bv, bs, _, _, rfl, hBL6, hB6, ?_, hbok, hba, hbm, hAC6, hTL6, hR6, pot6, kp6⟩
          rw [hR5.len] at hbl
          rw [Nat.succ_mul]
          exact hbl
      · rintro σ H5 ⟨bv, bs, av, tkv, rfl, hBL5, hB5, hbl, hbok, hba, hbm, hAC5, hTL5, hR5, pot5, kp5⟩
        walk_at "my_rd"
        refine ⟨p, l, 5, rfl, pot5, by omega, by omega, fun g gv gs H6 ng hg6 hP6 hD _ pot6 kp6 => ?_⟩
        have kp06 := Kp.trans kp5 kp6
        have hBL6 : H6 BL = some (.lst bv) := Kp.get kp6 hBL5 nBLp
        have hTL6 : H6 TL = some (.lst tv) := Kp.get kp6 hTL5 nTLp
        have hB6 := hB5.pot pot5 kp6
        have hR6 := hR5.pot pot5 kp6
        obtain ⟨g0, hg0⟩ : ∃ g0, gs[0]? = some g0 := by
          cases gs with
          | nil => exact absurd rfl hD.ne
          | cons a _ => exact ⟨a, rfl⟩
        obtain ⟨t0, ht0⟩ : ∃ t0, ts[0]? = some t0 := by
          cases ts with
          | nil => simp at hlts
          | cons a _ => exact ⟨a, rfl⟩
        obtain ⟨ga, hga, hgt⟩ := hP6.at_ 0 g0 hg0
        obtain ⟨ta, hta, htt⟩ := hR6.at_ 0 t0 ht0
        have htt : H6 ta = some (.tup [.str t0.name, .str t0.home, .int t0.scale, .int t0.limit, .int t0.large]) := htt
        have hgm := List.mem_of_getElem? hg0
        have htm := List.mem_of_getElem? ht0
        walk_at "my_rd"
        refine q_ixTt hg6 (at_int (n := 0) rfl hga) ?_
        walk_at "my_rd"
        refine q_ixLt hTL6 (at_int (n := 0) rfl hta) ?_
        walk_at "my_rd"
        refine q_tupK (Nat.le_of_ble_eq_true rfl) fun U nU => ?_
        walk_at "my_rd"
        have hU0 := Kp.fresh kp06 hpo nU (pot6.nep nU)
        have hbnd : bs.length ≤ 9 := by
          have h1 : ts.length ≤ 3 := by omega
          have := Nat.mul_le_mul (show accNames.length ≤ 3 from Nat.le_refl _) h1
          rw [List.length_map] at hbl
          omega
        refine q_append (upd_new nU hBL6) (by rw [hB6.len]; exact small1000 (by omega)) ?_
        walk_at "my_rd"
        generalize hH7 : upd (upd H6 U _) BL _ = H7
        have hB7 : RowsAt BalR.v H7 (bv ++ [.ref U]) (bs ++ [⟨g0.1, t0.name, 60⟩]) := by
          rw [← hH7]
          exact ((hB6.new nU).snoc (r := ⟨g0.1, t0.name, 60⟩) upd_same).updL (upd_new nU hBL6)
        have hBL7 : H7 BL = some (.lst (bv ++ [.ref U])) := by rw [← hH7]; exact upd_same
        have hTL7 : H7 TL = some (.lst tv) := by rw [← hH7]; exact upd_other nTLBL (upd_new nU hTL6)
        have hR7 : RowsAt TokR.v H7 tv ts := by rw [← hH7]; exact (hR6.new nU).updL (upd_new nU hBL6)
        have hg7 : H7 g = some (.tup gv) := by rw [← hH7]; exact upd_other (ne_of hg6 hBL6 (by intro z; cases z)) (upd_new nU hg6)
        have hP7 : PairsAt H7 gv gs := by rw [← hH7]; exact (hP6.new nU).updL (upd_new nU hBL6)
        have pot7 : PotAt H7 p l := by rw [← hH7]; exact (pot6.new nU).upd nBLp nBLl
        have kp7 : Kp p H H7 := by rw [← hH7]; exact Kp.new (Kp.new kp06 hU0) hBL0
        clear hH7
        refine q_disp fun d nd => ?_
        have ndp : d ≠ p := pot7.nep nd
        have hd0 := Kp.fresh kp7 hpo nd ndp
        generalize hH8 : upd H7 d (.dK []) = H8
        have hd8 : H8 d = some (.dK []) := by rw [← hH8]; exact upd_same
        have sm8 : Same H7 H8 := by rw [← hH8]; exact Same.new (Same.refl _) nd
        have pot8 := pot7.same sm8
        have kp8 : Kp p H H8 := Kp.trans kp7 (Same.kp sm8)
        clear hH8
        walk_at "my_rd"
        refine ⟨p, l, 3, rfl, pot8, by omega, by omega, fun de H9 e0 e1 pot9 kp9 => ?_⟩
        walk_at "my_rd"
        refine ⟨p, l, 4, rfl, pot9, by omega, by omega, fun wi H10 e2 e3 pot10 kp10 => ?_⟩
        walk_at "my_rd"
        refine ⟨p, l, 4, rfl, pot10, by omega, by omega, fun dy H11 e4 e5 pot11 kp11 => ?_⟩
        walk_at "my_rd"
        refine ⟨p, l, 3, rfl, pot11, by omega, by omega, fun bu H12 e6 e7 pot12 kp12 => ?_⟩
        walk_at "my_rd"
        have kp812 : Kp p H8 H12 := Kp.trans kp9 (Kp.trans kp10 (Kp.trans kp11 kp12))
        have hd12 : H12 d = some (.dK []) := Kp.get kp812 hd8 ndp
        have nTLd : TL ≠ d := ne_of_none hTL7 nd
        have nBLd : BL ≠ d := ne_of_none hBL7 nd
        have ngp : g ≠ p := by
          obtain ⟨_, _, _, _, q1, _⟩ := pot7
          exact ne_of hg7 q1 (by intro z; cases z)
        refine q_dispK (kvs := partKvs TL BL g ⟨ts, bs ++ [⟨g0.1, t0.name, 60⟩], 1 + de, 1 + wi, dy, 1 + bu⟩) hd12 rfl (by show 7 ≤ 15; decide) (part_nd _ _ _ _) ?_
        walk_at "my_rd"
        have tupd : ∀ b ys, H7 b = some (HO.tup ys) → upd H12 d (.dK (partKvs TL BL g ⟨ts, bs ++ [⟨g0.1, t0.name, 60⟩], 1 + de, 1 + wi, dy, 1 + bu⟩)) b = some (.tup ys) := fun b ys q => upd_other (ne_of_none q nd) (kp812.tup pot8 (sm8 _ _ q))
        refine k d ⟨ts, bs ++ [⟨g0.1, t0.name, 60⟩], 1 + de, 1 + wi, dy, 1 + bu⟩ gs TL BL g tv (bv ++ [.ref U]) gv _ hd0 nTL hBL0
          ⟨upd_same, upd_other nTLd (Kp.get kp812 (sm8 _ _ hTL7) nTLp), hR7.mono tupd, upd_other nBLd (Kp.get kp812 (sm8 _ _ hBL7) nBLp), hB7.mono tupd, tupd _ _ hg7, hP7.mono tupd⟩ ?_
          (pot12.upd ndp (pot7.nel nd)) (Kp.new (Kp.trans kp8 kp812) hd0)
        obtain ⟨ga1, ga2, ga3⟩ := gnames_ok _ (hD.nms g0 hgm)
        refine ⟨⟨hok, ?_, by show ts.length ≤ 1000; omega, ?_, by show (bs ++ [_]).length ≤ 1000; rw [List.length_append]; show bs.length + 1 ≤ 1000; omega, by show 1 ≤ 1 + de; omega, by show 1 ≤ 1 + wi; omega, e4, by show 1 ≤ 1 + bu; omega, by show 1 + bu ≤ 8; omega⟩, ?_, ?_, hho, hsc, by show ts.length ≤ 3; omega, hD, ?_, ?_, by show (bs ++ [_]).length ≤ 10; rw [List.length_append]; show bs.length + 1 ≤ 10; omega, by show 1 + de ≤ 3; omega, by show 1 + wi ≤ 4; omega, by show dy ≤ 3; omega, by show 1 + bu ≤ 3; omega, ⟨bs, t0, g0, ht0, hg0, rfl, hba⟩⟩
        · show (ts.map TokR.name).Nodup
          rw [hnm2]
          exact (List.take_sublist _ _).nodup tokNames_nd
        · intro b hb
          rcases List.mem_append.mp hb with h | h
          · exact hbok b h
          · rw [List.mem_singleton.mp h]
            exact ⟨ga1, ga2, (hok t0 htm).n, (hok t0 htm).nl, List.mem_map.mpr ⟨t0, htm, rfl⟩, by show (0 : Int) ≤ 60; omega⟩
        · show ts ≠ []
          rintro rfl
          simp at hlts
        · intro t ht
          have : t.name ∈ ts.map TokR.name := List.mem_map.mpr ⟨t, ht, rfl⟩
          rw [hnm2] at this
          exact List.mem_of_mem_take this
        · intro b hb
          rcases List.mem_append.mp hb with h | h
          · exact .inl (hba b h)
          · rw [List.mem_singleton.mp h]; exact .inr (by rw [hg0]; rfl)
        · intro b hb
          rcases List.mem_append.mp hb with h | h
          · exact hbm b h
          · rw [List.mem_singleton.mp h]; show (60 : Int) ≤ 1000000; omega
end

local macro_rules | `(tactic| walk_at "my_rd") => `(tactic| (repeat first
  | with_reducible refine q_tCons ?_
  | ((with_reducible apply q_var); (focus (exact rfl)))
  | with_reducible refine q_c ?_
  | ((with_reducible apply q_nxE); (focus (with_reducible exact rfl)))
  | with_reducible refine q_bK ?_
  | with_reducible refine q_call ?_
  | with_reducible refine q_callK ?_
  | with_reducible refine q_tNil ?_
  | with_reducible refine q_cb ?_
  | with_reducible refine q_seq ?_
  | with_reducible refine q_asg ?_
  | with_reducible refine q_gName ?_
  | with_reducible refine q_op ?_
  | with_reducible refine q_test ?_
  | with_reducible refine q_tB ?_
  | with_reducible refine q_ifS ?_
  | with_reducible refine q_ret ?_
  | ((with_reducible apply q_rtE); (focus (with_reducible exact rfl)))
  | with_reducible refine q_next ?_
  | with_reducible refine q_ifF ?_
  | with_reducible refine q_ifT ?_
  | with_reducible refine q_drop ?_
  | with_reducible refine q_and ?_
  | with_reducible refine q_or ?_
  | with_reducible refine q_andT ?_
  | with_reducible refine q_andF ?_
  | with_reducible refine q_orF ?_
  | with_reducible refine q_orT ?_
  | with_reducible refine q_andV ?_
  | with_reducible refine q_andVT ?_
  | with_reducible refine q_andVF ?_
  | with_reducible refine q_orV ?_
  | with_reducible refine q_gCons ?_
  | with_reducible refine q_gNil ?_
  | with_reducible refine q_tup ?_
  | with_reducible refine q_lst ?_
  | with_reducible refine q_not ?_
  | with_reducible refine q_notKT ?_
  | with_reducible refine q_notKF ?_
  | with_reducible refine q_I0 ?_
  | with_reducible refine q_eqI ?_
  | with_reducible refine q_neI ?_
  | ((with_reducible refine q_I ?_ ?_); first | decide | omega | exact ⟨by omega, by omega⟩ | exact ⟨by decide, by decide⟩ | exact .inl ⟨by omega, by omega⟩ | exact .inr ⟨by omega, by omega⟩ | exact .inr ⟨by decide, by decide⟩)
  | with_reducible refine q_eqS ?_
  | with_reducible refine q_neS ?_
  | with_reducible refine q_brk ?_
  | with_reducible refine q_ct ?_
  | ((with_reducible apply q_bkE); (focus (with_reducible exact rfl)))
  | ((with_reducible apply q_cnE); (focus (with_reducible exact rfl)))
  | with_reducible refine q_retN ?_
  | with_reducible refine q_gSub ?_
  | with_reducible refine q_for ?_
  | with_reducible refine q_iList ?_
  | with_reducible refine q_iTup ?_
  | with_reducible refine q_iRng1 ?_
  | with_reducible refine q_notK ?_
  | with_reducible refine q_orVT ?_
  | with_reducible refine q_orVF ?_
  | with_reducible refine q_notV ?_
  | with_reducible refine q_notVK ?_
  | with_reducible refine q_ifE ?_
  | with_reducible refine q_ifET ?_
  | with_reducible refine q_ifEF ?_
  | with_reducible refine q_yes ?_
  | with_reducible refine q_un ?_
  | with_reducible refine q_rU ?_
  | with_reducible refine q_abs ?_
  | with_reducible refine q_int1 ?_
  | with_reducible refine q_bm ?_
  | with_reducible refine q_bm0 ?_
  | with_reducible refine q_lc ?_
  | with_reducible refine q_keepT ?_
  | with_reducible refine q_keepF ?_
  | ((with_reducible apply q_aug); (focus (exact rfl)))
  | with_reducible refine q_ipI ?_
  | with_reducible refine q_chain ?_
  | with_reducible refine q_pairC ?_
  | with_reducible refine q_pairsK ?_
  | with_reducible refine q_pairN ?_
  | with_reducible refine q_fld ?_
  | with_reducible refine q_sFld ?_
  | with_reducible refine q_meth ?_
  | with_reducible refine q_makeK ?_
  | with_reducible refine q_isBl ?_
  | with_reducible refine q_notBl ?_
  | with_reducible refine q_sl ?_
  | with_reducible refine q_noPart ?_
  | with_reducible refine q_part ?_
  | with_reducible refine q_partK ?_
  | ((with_reducible apply q_mulStr); (focus (decide +kernel)))
  | with_reducible refine q_chT ?_
  | with_reducible refine q_chF ?_
  | with_reducible refine q_ord ?_
  | with_reducible refine q_iStr0 ?_
  | with_reducible refine q_iStr ?_
  | with_reducible refine q_tDIn ?_
  | with_reducible refine q_tDNotIn ?_
  | with_reducible refine q_tDGet ?_
  | with_reducible refine q_tDGet2 ?_
  | with_reducible refine q_tDGet1 ?_
  | with_reducible refine q_tDSetd ?_
  | ((with_reducible apply q_dG2a); (focus ((repeat first | (with_reducible exact upd_same) | (with_reducible assumption) | (with_reducible apply upd_new (by assumption)) | (with_reducible apply upd_other (by first | assumption | exact Ne.symm (by assumption))) | (with_reducible refine' Kp.get (by assumption) ?_ (by first | assumption | exact Ne.symm (by assumption))) | (with_reducible apply Same.get (by assumption))); done)))
  | ((with_reducible apply q_dSda); (focus ((repeat first | (with_reducible exact upd_same) | (with_reducible assumption) | (with_reducible apply upd_new (by assumption)) | (with_reducible apply upd_other (by first | assumption | exact Ne.symm (by assumption))) | (with_reducible refine' Kp.get (by assumption) ?_ (by first | assumption | exact Ne.symm (by assumption))) | (with_reducible apply Same.get (by assumption))); done)))
  | with_reducible refine q_sDPut ?_
  | ((with_reducible apply q_dInS); (focus ((repeat first | (with_reducible exact upd_same) | (with_reducible assumption) | (with_reducible apply upd_new (by assumption)) | (with_reducible apply upd_other (by first | assumption | exact Ne.symm (by assumption))) | (with_reducible refine' Kp.get (by assumption) ?_ (by first | assumption | exact Ne.symm (by assumption))) | (with_reducible apply Same.get (by assumption))); done)))
  | ((with_reducible apply q_dNInS); (focus ((repeat first | (with_reducible exact upd_same) | (with_reducible assumption) | (with_reducible apply upd_new (by assumption)) | (with_reducible apply upd_other (by first | assumption | exact Ne.symm (by assumption))) | (with_reducible refine' Kp.get (by assumption) ?_ (by first | assumption | exact Ne.symm (by assumption))) | (with_reducible apply Same.get (by assumption))); done)))
  | ((with_reducible apply q_dInI); (focus ((repeat first | (with_reducible exact upd_same) | (with_reducible assumption) | (with_reducible apply upd_new (by assumption)) | (with_reducible apply upd_other (by first | assumption | exact Ne.symm (by assumption))) | (with_reducible refine' Kp.get (by assumption) ?_ (by first | assumption | exact Ne.symm (by assumption))) | (with_reducible apply Same.get (by assumption))); done)))
  | ((with_reducible apply q_dNInI); (focus ((repeat first | (with_reducible exact upd_same) | (with_reducible assumption) | (with_reducible apply upd_new (by assumption)) | (with_reducible apply upd_other (by first | assumption | exact Ne.symm (by assumption))) | (with_reducible refine' Kp.get (by assumption) ?_ (by first | assumption | exact Ne.symm (by assumption))) | (with_reducible apply Same.get (by assumption))); done)))
  | ((with_reducible apply q_bmL); (focus ((repeat first | (with_reducible exact upd_same) | (with_reducible assumption) | (with_reducible apply upd_new (by assumption)) | (with_reducible apply upd_other (by first | assumption | exact Ne.symm (by assumption))) | (with_reducible refine' Kp.get (by assumption) ?_ (by first | assumption | exact Ne.symm (by assumption))) | (with_reducible apply Same.get (by assumption))); done)))
  | ((with_reducible apply q_bmL0); (focus ((repeat first | (with_reducible exact upd_same) | (with_reducible assumption) | (with_reducible apply upd_new (by assumption)) | (with_reducible apply upd_other (by first | assumption | exact Ne.symm (by assumption))) | (with_reducible refine' Kp.get (by assumption) ?_ (by first | assumption | exact Ne.symm (by assumption))) | (with_reducible apply Same.get (by assumption))); done)))
  | ((with_reducible apply q_ixLt); (focus ((repeat first | (with_reducible exact upd_same) | (with_reducible assumption) | (with_reducible apply upd_new (by assumption)) | (with_reducible apply upd_other (by first | assumption | exact Ne.symm (by assumption))) | (with_reducible refine' Kp.get (by assumption) ?_ (by first | assumption | exact Ne.symm (by assumption))) | (with_reducible apply Same.get (by assumption))); done)); (focus (exact rfl)))
  | ((with_reducible apply q_ixTt); (focus ((repeat first | (with_reducible exact upd_same) | (with_reducible assumption) | (with_reducible apply upd_new (by assumption)) | (with_reducible apply upd_other (by first | assumption | exact Ne.symm (by assumption))) | (with_reducible refine' Kp.get (by assumption) ?_ (by first | assumption | exact Ne.symm (by assumption))) | (with_reducible apply Same.get (by assumption))); done)); (focus (exact rfl)))
  | ((with_reducible apply q_lenLt); (focus ((repeat first | (with_reducible exact upd_same) | (with_reducible assumption) | (with_reducible apply upd_new (by assumption)) | (with_reducible apply upd_other (by first | assumption | exact Ne.symm (by assumption))) | (with_reducible refine' Kp.get (by assumption) ?_ (by first | assumption | exact Ne.symm (by assumption))) | (with_reducible apply Same.get (by assumption))); done)))
  | ((with_reducible apply q_lenTt); (focus ((repeat first | (with_reducible exact upd_same) | (with_reducible assumption) | (with_reducible apply upd_new (by assumption)) | (with_reducible apply upd_other (by first | assumption | exact Ne.symm (by assumption))) | (with_reducible refine' Kp.get (by assumption) ?_ (by first | assumption | exact Ne.symm (by assumption))) | (with_reducible apply Same.get (by assumption))); done)))
  | ((with_reducible apply q_append); (focus ((repeat first | (with_reducible exact upd_same) | (with_reducible assumption) | (with_reducible apply upd_new (by assumption)) | (with_reducible apply upd_other (by first | assumption | exact Ne.symm (by assumption))) | (with_reducible refine' Kp.get (by assumption) ?_ (by first | assumption | exact Ne.symm (by assumption))) | (with_reducible apply Same.get (by assumption))); done)); (focus ((first | (exact Nat.lt_of_ble_eq_true rfl) | (simp only [List.length_append, List.length_cons, List.length_nil, List.length_map]; exact small1000 (by omega))))))
  | ((with_reducible apply q_setL); (focus ((repeat first | (with_reducible exact upd_same) | (with_reducible assumption) | (with_reducible apply upd_new (by assumption)) | (with_reducible apply upd_other (by first | assumption | exact Ne.symm (by assumption))) | (with_reducible refine' Kp.get (by assumption) ?_ (by first | assumption | exact Ne.symm (by assumption))) | (with_reducible apply Same.get (by assumption))); done)); (focus (exact rfl)))
  | with_reducible refine q_ifNT ?_
  | with_reducible refine q_ifNF ?_
  | with_reducible refine q_andNT ?_
  | with_reducible refine q_andNF ?_
  | with_reducible refine q_orNT ?_
  | with_reducible refine q_orNF ?_
  | with_reducible refine q_bKNT ?_
  | with_reducible refine q_bKNF ?_
  | with_reducible refine q_tNGet ?_
  | with_reducible refine q_tNIn ?_
  | with_reducible refine q_sNPut ?_
  | with_reducible refine q_sFldAug ?_
  | with_reducible refine q_sDAug ?_
  | with_reducible refine q_sDDel ?_
  | with_reducible refine q_forX ?_
  | with_reducible refine q_tMake ?_
  | ((with_reducible apply q_dG1a); (focus ((repeat first | (with_reducible exact upd_same) | (with_reducible assumption) | (with_reducible apply upd_new (by assumption)) | (with_reducible apply upd_other (by first | assumption | exact Ne.symm (by assumption))) | (with_reducible refine' Kp.get (by assumption) ?_ (by first | assumption | exact Ne.symm (by assumption))) | (with_reducible apply Same.get (by assumption))); done)))))
/-! the Config of the law's configuration -/
def prd (g : Str × Int) : PyData := .tuple [.str g.1, .int g.2]
theorem PairsAt.tail {H : Hp} {x : V} {xs : List V} {g : Str × Int} {gs : Gs} (h : PairsAt H (x :: xs) (g :: gs)) : PairsAt H xs gs :=
  ⟨by have := h.len; simpa using this, fun i g' hg => by have := h.at_ (i + 1) g' (by simpa using hg); simpa using this⟩
theorem PairsAt.tall {K : PySem.W.Frag} {H : Hp} : ∀ {xs : List V} {gs : Gs}, PairsAt H xs gs → TupAll K H xs (gs.map prd)
  | [], [], _ => .nil
  | [], g :: gs, h => by have := h.len; simp at this
  | x :: xs, [], h => by have := h.len; simp at this
  | x :: xs, g :: gs, h => by
    obtain ⟨a, e, ha⟩ := h.at_ 0 g rfl
    have e : x = .ref a := Option.some.inj e
    subst e
    exact .cons (.tup ha (.cons (.str _) (.cons (.int _) .nil))) h.tail.tall
theorem Drawn.set {gs : Gs} (h : Drawn gs) : setD (.tuple (gs.map prd)) = true := by
  have h1 : (gs.map prd).isEmpty = false := by
    cases gs with
    | nil => exact absurd rfl h.ne
    | cons _ _ => rfl
  have h2 : (gs.map prd).all pairD = true := by
    rw [List.all_eq_true]
    intro d hd
    obtain ⟨g, hg, rfl⟩ := List.mem_map.mp hd
    show (accD (.str g.1) && leastD 1 (.int g.2)) = true
    rw [(gnames_ok _ (h.nms g hg)).1, Bool.true_and]
    exact decide_eq_true (h.pos g hg)
  have h3 : ((gs.map prd).map nameS) = gs.map (·.1) := by
    rw [List.map_map]
    rfl
  show (!(gs.map prd).isEmpty && ((gs.map prd).all pairD && decide (((gs.map prd).map nameS).Nodup))) = true
  rw [h1, h2, h3, decide_eq_true h.nd]
  rfl
theorem fineS_pairs {gs : Gs} (h : Drawn gs) : FineS (.tuple (gs.map prd)) := by
  intro ds e
  injection e with e
  subst e
  refine ⟨by rw [List.length_map]; have := h.few; omega, fun x hx => ?_⟩
  obtain ⟨g, hg, rfl⟩ := List.mem_map.mp hx
  intro a b e
  injection e with e
  injection e with e1 e
  injection e with e2 e
  subst e1 e2
  exact ⟨by show g.1.length ≤ 100000; have := (gnames_ok _ (h.nms g hg)).2.1; omega, trivial⟩
def sp_Lmade (C : Addr) : Sp := fun vs H Q _ => ∃ (d : Addr) (c : Parts) (gs : Gs) (tl bl g : Addr) (tv bv gv : List V), vs = [.ref d] ∧ PartsAt H d c gs tl bl g tv bv gv ∧ CfgOk c gs ∧
  ∀ (x : Addr) (H' : Hp), H x = none → CfgAt C c g H' x → Same H H' → Q (.ref x) H'
section
variable {P : Program} {w : World} {K : PySem.W.Frag} {mg : Str → Option Value} {base : Heap}
theorem ok_L_made (T : Txt K mg) : FnOk P w K mg base CX0 8 T.f_L_made T.d_L_made ["parts"] (sp_Lmade T.C_Config) := by
  refine T.F_L_made.ok sc_L_made (fun vs H Q E h => ?_) (fun cdv A outer s H vs Q E hr h => ?_)
  · obtain ⟨d, c, gs, tl, bl, g, tv, bv, gv, rfl, _⟩ := h; rfl
  · obtain ⟨d, c, gs, tl, bl, g, tv, bv, gv, rfl, hp, hc, k⟩ := h
    have hu := hu_of hr
    refine ⟨_, (pss_one (ps_ret (pe_makeK0 T.mk_Config (ok_Config_init T) (hr.mono (by decide)) (by rfl) T.g_Config T.kb7_Config_init pass0 (pk_cons (pe_dget hu (pv 0) pe_str (fun _ _ => rfl)) (pk_cons (pe_dget hu (pv 0) pe_str (fun _ _ => rfl)) (pk_cons (pe_dget hu (pv 0) pe_str (fun _ _ => rfl)) (pk_cons (pe_dget hu (pv 0) pe_str (fun _ _ => rfl)) (pk_cons (pe_dget hu (pv 0) pe_str (fun _ _ => rfl)) (pk_cons (pe_dget hu (pv 0) pe_str (fun _ _ => rfl)) (pk_cons (pe_dget hu (pv 0) pe_str (fun _ _ => rfl)) pk_nil)))))))))), ?_⟩
    (dsimp only [cxOf, Cx.nox, Cx.wish, L2.start, List.map, List.length, List.replicate, List.cons_append, List.nil_append, List.append_eq, Nat.reduceSub, Nat.reduceAdd])
    walk_at "my_rd"
    refine q_dGetS hp.dict (by (repeat first | rfl | rw [valV_cons, if_pos rfl] | rw [valV_cons, if_neg (by decide +kernel)])) ?_
    walk_at "my_rd"
    refine q_dGetS hp.dict (by (repeat first | rfl | rw [valV_cons, if_pos rfl] | rw [valV_cons, if_neg (by decide +kernel)])) ?_
    walk_at "my_rd"
    refine q_dGetS hp.dict (by (repeat first | rfl | rw [valV_cons, if_pos rfl] | rw [valV_cons, if_neg (by decide +kernel)])) ?_
    walk_at "my_rd"
    refine q_dGetS hp.dict (by (repeat first | rfl | rw [valV_cons, if_pos rfl] | rw [valV_cons, if_neg (by decide +kernel)])) ?_
    walk_at "my_rd"
    refine q_dGetS hp.dict (by (repeat first | rfl | rw [valV_cons, if_pos rfl] | rw [valV_cons, if_neg (by decide +kernel)])) ?_
    walk_at "my_rd"
    refine q_dGetS hp.dict (by (repeat first | rfl | rw [valV_cons, if_pos rfl] | rw [valV_cons, if_neg (by decide +kernel)])) ?_
    walk_at "my_rd"
    refine q_dGetS hp.dict (by (repeat first | rfl | rw [valV_cons, if_pos rfl] | rw [valV_cons, if_neg (by decide +kernel)])) ?_
    walk_at "my_rd"
    refine ⟨rfl, rfl, fun x dx nx ndx hdx => ?_⟩
    have sm : Same H (upd (upd H dx (.own x)) x (.ins T.C_Config dx [])) := Same.up (Same.up (Same.refl _) ndx) (upd_free hdx.symm nx)
    have hp2 := hp.same sm
    refine ⟨x, dx, tl, bl, g, tv, bv, .tuple (gs.map prd), c, rfl, upd_same, hp2.tl, hp2.bl, hp2.tr, hp2.br, .tup hp2.gt hp2.gp.tall, hc.gd.set, fineS_pairs hc.gd, hc.ok, fun H' hC kp => ?_⟩
    refine ⟨rfl, k x H' nx hC ?_⟩
    intro b o hb
    exact kp b o (sm b o hb) (ne_of_none hb nx)
end

local macro_rules | `(tactic| walk_at "my_rd") => `(tactic| (repeat first
  | with_reducible refine q_tCons ?_
  | ((with_reducible apply q_var); (focus (exact rfl)))
  | with_reducible refine q_c ?_
  | ((with_reducible apply q_nxE); (focus (with_reducible exact rfl)))
  | with_reducible refine q_bK ?_
  | with_reducible refine q_call ?_
  | with_reducible refine q_callK ?_
  | with_reducible refine q_tNil ?_
  | with_reducible refine q_cb ?_
  | with_reducible refine q_seq ?_
  | with_reducible refine q_asg ?_
  | with_reducible refine q_gName ?_
  | with_reducible refine q_op ?_
  | with_reducible refine q_test ?_
  | with_reducible refine q_tB ?_
  | with_reducible refine q_ifS ?_
  | with_reducible refine q_ret ?_
  | ((with_reducible apply q_rtE); (focus (with_reducible exact rfl)))
  | with_reducible refine q_next ?_
  | with_reducible refine q_ifF ?_
  | with_reducible refine q_ifT ?_
  | with_reducible refine q_drop ?_
  | with_reducible refine q_and ?_
  | with_reducible refine q_or ?_
  | with_reducible refine q_andT ?_
  | with_reducible refine q_andF ?_
  | with_reducible refine q_orF ?_
  | with_reducible refine q_orT ?_
  | with_reducible refine q_andV ?_
  | with_reducible refine q_andVT ?_
  | with_reducible refine q_andVF ?_
  | with_reducible refine q_orV ?_
  | with_reducible refine q_gCons ?_
  | with_reducible refine q_gNil ?_
  | with_reducible refine q_tup ?_
  | with_reducible refine q_lst ?_
  | with_reducible refine q_not ?_
  | with_reducible refine q_notKT ?_
  | with_reducible refine q_notKF ?_
  | with_reducible refine q_I0 ?_
  | with_reducible refine q_eqI ?_
  | with_reducible refine q_neI ?_
  | ((with_reducible refine q_I ?_ ?_); first | decide | omega | exact ⟨by omega, by omega⟩ | exact ⟨by decide, by decide⟩ | exact .inl ⟨by omega, by omega⟩ | exact .inr ⟨by omega, by omega⟩ | exact .inr ⟨by decide, by decide⟩)
  | with_reducible refine q_eqS ?_
  | with_reducible refine q_neS ?_
  | with_reducible refine q_brk ?_
  | with_reducible refine q_ct ?_
  | ((with_reducible apply q_bkE); (focus (with_reducible exact rfl)))
  | ((with_reducible apply q_cnE); (focus (with_reducible exact rfl)))
  | with_reducible refine q_retN ?_
  | with_reducible refine q_gSub ?_
  | with_reducible refine q_for ?_
  | with_reducible refine q_iList ?_
  | with_reducible refine q_iTup ?_
  | with_reducible refine q_iRng1 ?_
  | with_reducible refine q_notK ?_
  | with_reducible refine q_orVT ?_
  | with_reducible refine q_orVF ?_
  | with_reducible refine q_notV ?_
  | with_reducible refine q_notVK ?_
  | with_reducible refine q_ifE ?_
  | with_reducible refine q_ifET ?_
  | with_reducible refine q_ifEF ?_
  | with_reducible refine q_yes ?_
  | with_reducible refine q_un ?_
  | with_reducible refine q_rU ?_
  | with_reducible refine q_abs ?_
  | with_reducible refine q_int1 ?_
  | with_reducible refine q_bm ?_
  | with_reducible refine q_bm0 ?_
  | with_reducible refine q_lc ?_
  | with_reducible refine q_keepT ?_
  | with_reducible refine q_keepF ?_
  | ((with_reducible apply q_aug); (focus (exact rfl)))
  | with_reducible refine q_ipI ?_
  | with_reducible refine q_chain ?_
  | with_reducible refine q_pairC ?_
  | with_reducible refine q_pairsK ?_
  | with_reducible refine q_pairN ?_
  | with_reducible refine q_fld ?_
  | with_reducible refine q_sFld ?_
  | with_reducible refine q_meth ?_
  | with_reducible refine q_makeK ?_
  | with_reducible refine q_isBl ?_
  | with_reducible refine q_notBl ?_
  | with_reducible refine q_sl ?_
  | with_reducible refine q_noPart ?_
  | with_reducible refine q_part ?_
  | with_reducible refine q_partK ?_
  | ((with_reducible apply q_mulStr); (focus (decide +kernel)))
  | with_reducible refine q_chT ?_
  | with_reducible refine q_chF ?_
  | with_reducible refine q_ord ?_
  | with_reducible refine q_iStr0 ?_
  | with_reducible refine q_iStr ?_
  | with_reducible refine q_tDIn ?_
  | with_reducible refine q_tDNotIn ?_
  | with_reducible refine q_tDGet ?_
  | with_reducible refine q_tDGet2 ?_
  | with_reducible refine q_tDGet1 ?_
  | with_reducible refine q_tDSetd ?_
  | ((with_reducible apply q_dG2a); (focus ((repeat first | (with_reducible exact upd_same) | (with_reducible assumption) | (with_reducible apply upd_new (by assumption)) | (with_reducible apply upd_other (by first | assumption | exact Ne.symm (by assumption))) | (with_reducible refine' Kp.get (by assumption) ?_ (by first | assumption | exact Ne.symm (by assumption))) | (with_reducible apply Same.get (by assumption))); done)))
  | ((with_reducible apply q_dSda); (focus ((repeat first | (with_reducible exact upd_same) | (with_reducible assumption) | (with_reducible apply upd_new (by assumption)) | (with_reducible apply upd_other (by first | assumption | exact Ne.symm (by assumption))) | (with_reducible refine' Kp.get (by assumption) ?_ (by first | assumption | exact Ne.symm (by assumption))) | (with_reducible apply Same.get (by assumption))); done)))
  | with_reducible refine q_sDPut ?_
  | ((with_reducible apply q_dInS); (focus ((repeat first | (with_reducible exact upd_same) | (with_reducible assumption) | (with_reducible apply upd_new (by assumption)) | (with_reducible apply upd_other (by first | assumption | exact Ne.symm (by assumption))) | (with_reducible refine' Kp.get (by assumption) ?_ (by first | assumption | exact Ne.symm (by assumption))) | (with_reducible apply Same.get (by assumption))); done)))
  | ((with_reducible apply q_dNInS); (focus ((repeat first | (with_reducible exact upd_same) | (with_reducible assumption) | (with_reducible apply upd_new (by assumption)) | (with_reducible apply upd_other (by first | assumption | exact Ne.symm (by assumption))) | (with_reducible refine' Kp.get (by assumption) ?_ (by first | assumption | exact Ne.symm (by assumption))) | (with_reducible apply Same.get (by assumption))); done)))
  | ((with_reducible apply q_dInI); (focus ((repeat first | (with_reducible exact upd_same) | (with_reducible assumption) | (with_reducible apply upd_new (by assumption)) | (with_reducible apply upd_other (by first | assumption | exact Ne.symm (by assumption))) | (with_reducible refine' Kp.get (by assumption) ?_ (by first | assumption | exact Ne.symm (by assumption))) | (with_reducible apply Same.get (by assumption))); done)))
  | ((with_reducible apply q_dNInI); (focus ((repeat first | (with_reducible exact upd_same) | (with_reducible assumption) | (with_reducible apply upd_new (by assumption)) | (with_reducible apply upd_other (by first | assumption | exact Ne.symm (by assumption))) | (with_reducible refine' Kp.get (by assumption) ?_ (by first | assumption | exact Ne.symm (by assumption))) | (with_reducible apply Same.get (by assumption))); done)))
  | ((with_reducible apply q_bmL); (focus ((repeat first | (with_reducible exact upd_same) | (with_reducible assumption) | (with_reducible apply upd_new (by assumption)) | (with_reducible apply upd_other (by first | assumption | exact Ne.symm (by assumption))) | (with_reducible refine' Kp.get (by assumption) ?_ (by first | assumption | exact Ne.symm (by assumption))) | (with_reducible apply Same.get (by assumption))); done)))
  | ((with_reducible apply q_bmL0); (focus ((repeat first | (with_reducible exact upd_same) | (with_reducible assumption) | (with_reducible apply upd_new (by assumption)) | (with_reducible apply upd_other (by first | assumption | exact Ne.symm (by assumption))) | (with_reducible refine' Kp.get (by assumption) ?_ (by first | assumption | exact Ne.symm (by assumption))) | (with_reducible apply Same.get (by assumption))); done)))
  | ((with_reducible apply q_ixLt); (focus ((repeat first | (with_reducible exact upd_same) | (with_reducible assumption) | (with_reducible apply upd_new (by assumption)) | (with_reducible apply upd_other (by first | assumption | exact Ne.symm (by assumption))) | (with_reducible refine' Kp.get (by assumption) ?_ (by first | assumption | exact Ne.symm (by assumption))) | (with_reducible apply Same.get (by assumption))); done)); (focus (exact rfl)))
  | ((with_reducible apply q_ixTt); (focus ((repeat first | (with_reducible exact upd_same) | (with_reducible assumption) | (with_reducible apply upd_new (by assumption)) | (with_reducible apply upd_other (by first | assumption | exact Ne.symm (by assumption))) | (with_reducible refine' Kp.get (by assumption) ?_ (by first | assumption | exact Ne.symm (by assumption))) | (with_reducible apply Same.get (by assumption))); done)); (focus (exact rfl)))
  | ((with_reducible apply q_lenLt); (focus ((repeat first | (with_reducible exact upd_same) | (with_reducible assumption) | (with_reducible apply upd_new (by assumption)) | (with_reducible apply upd_other (by first | assumption | exact Ne.symm (by assumption))) | (with_reducible refine' Kp.get (by assumption) ?_ (by first | assumption | exact Ne.symm (by assumption))) | (with_reducible apply Same.get (by assumption))); done)))
  | ((with_reducible apply q_lenTt); (focus ((repeat first | (with_reducible exact upd_same) | (with_reducible assumption) | (with_reducible apply upd_new (by assumption)) | (with_reducible apply upd_other (by first | assumption | exact Ne.symm (by assumption))) | (with_reducible refine' Kp.get (by assumption) ?_ (by first | assumption | exact Ne.symm (by assumption))) | (with_reducible apply Same.get (by assumption))); done)))
  | ((with_reducible apply q_append); (focus ((repeat first | (with_reducible exact upd_same) | (with_reducible assumption) | (with_reducible apply upd_new (by assumption)) | (with_reducible apply upd_other (by first | assumption | exact Ne.symm (by assumption))) | (with_reducible refine' Kp.get (by assumption) ?_ (by first | assumption | exact Ne.symm (by assumption))) | (with_reducible apply Same.get (by assumption))); done)); (focus ((first | (exact Nat.lt_of_ble_eq_true rfl) | (simp only [List.length_append, List.length_cons, List.length_nil, List.length_map]; exact small1000 (by omega))))))
  | ((with_reducible apply q_setL); (focus ((repeat first | (with_reducible exact upd_same) | (with_reducible assumption) | (with_reducible apply upd_new (by assumption)) | (with_reducible apply upd_other (by first | assumption | exact Ne.symm (by assumption))) | (with_reducible refine' Kp.get (by assumption) ?_ (by first | assumption | exact Ne.symm (by assumption))) | (with_reducible apply Same.get (by assumption))); done)); (focus (exact rfl)))
  | with_reducible refine q_ifNT ?_
  | with_reducible refine q_ifNF ?_
  | with_reducible refine q_andNT ?_
  | with_reducible refine q_andNF ?_
  | with_reducible refine q_orNT ?_
  | with_reducible refine q_orNF ?_
  | with_reducible refine q_bKNT ?_
  | with_reducible refine q_bKNF ?_
  | with_reducible refine q_tNGet ?_
  | with_reducible refine q_tNIn ?_
  | with_reducible refine q_sNPut ?_
  | with_reducible refine q_sFldAug ?_
  | with_reducible refine q_sDAug ?_
  | with_reducible refine q_sDDel ?_
  | with_reducible refine q_forX ?_
  | with_reducible refine q_tMake ?_
  | ((with_reducible apply q_dG1a); (focus ((repeat first | (with_reducible exact upd_same) | (with_reducible assumption) | (with_reducible apply upd_new (by assumption)) | (with_reducible apply upd_other (by first | assumption | exact Ne.symm (by assumption))) | (with_reducible refine' Kp.get (by assumption) ?_ (by first | assumption | exact Ne.symm (by assumption))) | (with_reducible apply Same.get (by assumption))); done)))))
/-! a table of rows: by token, then by name -/
abbrev Row := List (Str × Int)
abbrev Tab2 := List (Str × Row)
def rowK (r : Row) : List (Key × V) := r.map fun p => (Sum.inr p.1, .int p.2)
def putRow (r : Row) (x : Str) (i : Int) : Row := if (r.any fun p => decide (p.1 = x)) = true then r.map (fun p => if p.1 = x then (p.1, i) else p) else r ++ [(x, i)]
def getRow (r : Row) (x : Str) : Int := ((r.find? fun p => decide (p.1 = x)).map (·.2)).getD 0
def tabAt (tb : Tab2) (t : Str) : Option Row := (tb.find? fun p => decide (p.1 = t)).map (·.2)
def rowOf (tb : Tab2) (t : Str) : Row := (tabAt tb t).getD []
def setRow : Tab2 → Str → Row → Tab2
  | [], t, r => [(t, r)]
  | (t', r') :: tb, t, r => if t' = t then (t, r) :: tb else (t', r') :: setRow tb t r
def heldT (tb : Tab2) (t x : Str) : Int := getRow (rowOf tb t) x
def putT (tb : Tab2) (t x : Str) (i : Int) : Tab2 := setRow tb t (putRow (rowOf tb t) x (getRow (rowOf tb t) x + i))
theorem inr_dec {s t : Str} : decide ((Sum.inr s : Key) = Sum.inr t) = decide (s = t) := by
  by_cases h : s = t
  · rw [h, decide_eq_true rfl, decide_eq_true rfl]
  · rw [decide_eq_false h, decide_eq_false (fun e => h (Sum.inr.inj e))]
theorem rowK_val (r : Row) (x : Str) : valV (rowK r) (Sum.inr x) = ((r.find? fun p => decide (p.1 = x)).map (·.2)).map V.int := by
  induction r with
  | nil => rfl
  | cons p r ih =>
    show valV ((Sum.inr p.1, V.int p.2) :: rowK r) (Sum.inr x) = _
    rw [valV_cons]
    by_cases h : p.1 = x
    · rw [if_pos (by rw [h]), List.find?_cons_of_pos (by rw [decide_eq_true h])]
      rfl
    · rw [if_neg (fun e => h (Sum.inr.inj e)), List.find?_cons_of_neg (by rw [decide_eq_false h]; exact Bool.false_ne_true), ih]
theorem rowK_get (r : Row) (x : Str) : (valV (rowK r) (Sum.inr x)).getD (.int 0) = .int (getRow r x) := by
  rw [rowK_val]
  unfold getRow
  cases (r.find? fun p => decide (p.1 = x)).map (·.2) <;> rfl
theorem rowK_any (r : Row) (x : Str) : ((rowK r).any fun kv => decide (kv.1 = Sum.inr x)) = r.any fun p => decide (p.1 = x) := by
  unfold rowK
  rw [List.any_map]
  congr 1
  funext p
  exact inr_dec
theorem rowK_put (r : Row) (x : Str) (i : Int) : putK (rowK r) (Sum.inr x) (.int i) = rowK (putRow r x i) := by
  unfold putK putRow
  rw [rowK_any]
  split
  · unfold rowK
    rw [List.map_map, List.map_map]
    congr 1
    funext p
    show (if (Sum.inr p.1 : Key) = Sum.inr x then ((Sum.inr p.1 : Key), V.int i) else (Sum.inr p.1, V.int p.2)) = _
    by_cases h : p.1 = x
    · rw [if_pos (by rw [h])]; show _ = ((Sum.inr (if p.1 = x then (p.1, i) else p).1 : Key), V.int (if p.1 = x then (p.1, i) else p).2); rw [if_pos h]
    · rw [if_neg (fun e => h (Sum.inr.inj e))]; show _ = ((Sum.inr (if p.1 = x then (p.1, i) else p).1 : Key), V.int (if p.1 = x then (p.1, i) else p).2); rw [if_neg h]
  · show _ = rowK (r ++ [(x, i)])
    unfold rowK
    rw [List.map_append]
    rfl
inductive TRows (H : Hp) : Tab2 → List Addr → List (Key × V) → Prop
  | nil : TRows H [] [] []
  | cons {t : Str} {r : Row} {a : Addr} {tb : Tab2} {as : List Addr} {kvs : List (Key × V)} : H a = some (.dK (rowK r)) → a ∉ as → TRows H tb as kvs → TRows H ((t, r) :: tb) (a :: as) ((Sum.inr t, .ref a) :: kvs)
theorem TRows.mono {H H' : Hp} {tb : Tab2} {as : List Addr} {kvs : List (Key × V)} (h : TRows H tb as kvs) (e : ∀ b ∈ as, ∀ o, H b = some o → H' b = some o) : TRows H' tb as kvs := by
  induction h with
  | nil => exact .nil
  | cons h1 h2 _ ih => exact .cons (e _ List.mem_cons_self _ h1) h2 (ih fun b hb => e b (List.mem_cons_of_mem _ hb))
theorem TRows.len {H : Hp} {tb : Tab2} {as : List Addr} {kvs : List (Key × V)} (h : TRows H tb as kvs) : kvs.length = tb.length := by
  induction h with
  | nil => rfl
  | cons _ _ _ ih => exact congrArg (· + 1) ih
theorem TRows.val {H : Hp} {tb : Tab2} {as : List Addr} {kvs : List (Key × V)} (h : TRows H tb as kvs) (t : Str) : (tabAt tb t = none ∧ valV kvs (Sum.inr t) = none) ∨ ∃ r a, tabAt tb t = some r ∧ valV kvs (Sum.inr t) = some (.ref a) ∧ a ∈ as ∧ H a = some (.dK (rowK r)) := by
  induction h with
  | nil => exact .inl ⟨rfl, rfl⟩
  | @cons t' r a tb as kvs h1 h2 _ ih =>
    rw [valV_cons]
    unfold tabAt
    by_cases e : t' = t
    · rw [if_pos (by rw [e]), List.find?_cons_of_pos (by rw [decide_eq_true e])]
      exact .inr ⟨r, a, rfl, rfl, List.mem_cons_self, h1⟩
    · rw [if_neg (fun z => e (Sum.inr.inj z)), List.find?_cons_of_neg (by rw [decide_eq_false e]; exact Bool.false_ne_true)]
      rcases ih with h | ⟨r', a', q1, q2, q3, q4⟩
      · exact .inl h
      · exact .inr ⟨r', a', q1, q2, List.mem_cons_of_mem _ q3, q4⟩
theorem TRows.mem {H : Hp} {tb : Tab2} {as : List Addr} {kvs : List (Key × V)} (h : TRows H tb as kvs) {a : Addr} (ha : a ∈ as) : ∃ r, H a = some (.dK (rowK r)) := by
  induction h with
  | nil => cases ha
  | cons h1 _ _ ih =>
    rcases List.mem_cons.mp ha with rfl | h
    · exact ⟨_, h1⟩
    · exact ih h
theorem TRows.set {H H' : Hp} {tb : Tab2} {as : List Addr} {kvs : List (Key × V)} (h : TRows H tb as kvs) {t : Str} {b : Addr} {r' : Row} (hv : valV kvs (Sum.inr t) = some (.ref b)) (hb : H' b = some (.dK (rowK r'))) (hk : ∀ c ∈ as, c ≠ b → ∀ o, H c = some o → H' c = some o) : TRows H' (setRow tb t r') as kvs := by
  induction h with
  | nil => cases hv
  | @cons t' r a tb as kvs h1 h2 h3 ih =>
    rw [valV_cons] at hv
    by_cases e : t' = t
    · subst e
      rw [if_pos rfl] at hv
      have e2 : a = b := by injection hv with z; injection z
      subst e2
      show TRows H' (if t' = t' then _ else _) _ _
      rw [if_pos rfl]
      exact .cons hb h2 (h3.mono fun c hc o q => hk c (List.mem_cons_of_mem _ hc) (fun z => h2 (z ▸ hc)) o q)
    · rw [if_neg (fun z => e (Sum.inr.inj z))] at hv
      have hm : b ∈ as := by
        rcases h3.val t with ⟨_, q⟩ | ⟨_, c, _, q, m, _⟩
        · rw [q] at hv; cases hv
        · rw [q] at hv
          have e2 : c = b := by injection hv with z; injection z
          exact e2 ▸ m
      show TRows H' (if t' = t then _ else _) _ _
      rw [if_neg e]
      exact .cons (hk a List.mem_cons_self (fun z => h2 (z ▸ hm)) _ h1) h2 (ih hv fun c hc => hk c (List.mem_cons_of_mem _ hc))
theorem TRows.snoc {H : Hp} {tb : Tab2} {as : List Addr} {kvs : List (Key × V)} (h : TRows H tb as kvs) {t : Str} {b : Addr} {r : Row} (hv : valV kvs (Sum.inr t) = none) (hb : H b = some (.dK (rowK r))) (hn : b ∉ as) : TRows H (setRow tb t r) (as ++ [b]) (kvs ++ [(Sum.inr t, .ref b)]) := by
  induction h with
  | nil => exact .cons hb (by simp) .nil
  | @cons t' r' a tb as kvs h1 h2 h3 ih =>
    rw [valV_cons] at hv
    by_cases e : t' = t
    · rw [if_pos (by rw [e])] at hv; cases hv
    · rw [if_neg (fun z => e (Sum.inr.inj z))] at hv
      show TRows H (if t' = t then _ else _) _ _
      rw [if_neg e]
      refine .cons h1 ?_ (ih hv fun z => hn (List.mem_cons_of_mem _ z))
      intro z
      rcases List.mem_append.mp z with z | z
      · exact h2 z
      · exact hn (List.mem_singleton.mp z ▸ List.mem_cons_self)
structure TblAt (H : Hp) (a : Addr) (tb : Tab2) (as : List Addr) : Prop where
  ex : ∃ kvs, H a = some (.dK kvs) ∧ TRows H tb as kvs
  out : a ∉ as
theorem TblAt.mono {H H' : Hp} {a : Addr} {tb : Tab2} {as : List Addr} (h : TblAt H a tb as) (ea : ∀ o, H a = some o → H' a = some o) (e : ∀ b ∈ as, ∀ o, H b = some o → H' b = some o) : TblAt H' a tb as := by
  obtain ⟨kvs, h1, h2⟩ := h.ex
  exact ⟨⟨kvs, ea _ h1, h2.mono e⟩, h.out⟩
theorem TblAt.same {H H' : Hp} {a : Addr} {tb : Tab2} {as : List Addr} (h : TblAt H a tb as) (e : Same H H') : TblAt H' a tb as := h.mono (fun o q => e a o q) fun b _ o q => e b o q
def sp_held : Sp := fun vs H Q _ => ∃ (a : Addr) (t x : Str) (tb : Tab2) (as : List Addr), vs = [.ref a, .str t, .str x] ∧ TblAt H a tb as ∧ ∀ H', Same H H' → Q (.int (heldT tb t x)) H'
/-- all but these addresses stays -/
def Kps (as : List Addr) (H H' : Hp) : Prop := ∀ b o, H b = some o → b ∉ as → H' b = some o
def sp_put : Sp := fun vs H Q _ => ∃ (a : Addr) (t x : Str) (i : Int) (tb : Tab2) (as : List Addr), vs = [.ref a, .str t, .str x, .int i] ∧ TblAt H a tb as ∧ tb.length < 1000 ∧ (rowOf tb t).length < 1000 ∧
  ∀ (H' : Hp) (as' : List Addr), TblAt H' a (putT tb t x i) as' → (∀ b ∈ as', b ∈ as ∨ H b = none) → Kps (a :: as) H H' → Q .non H'
section
variable {P : Program} {w : World} {K : PySem.W.Frag} {mg : Str → Option Value} {base : Heap}
theorem ok_held (T : Txt K mg) : FnOk P w K mg base CX0 1 T.f_held T.d_held ["table", "token", "name"] sp_held := by
  refine T.F_held.ok sc_held (fun vs H Q E h => ?_) (fun cdv A outer s H vs Q E hr h => ?_)
  · obtain ⟨a, t, x, tb, as, rfl, _⟩ := h; rfl
  · obtain ⟨a, t, x, tb, as, rfl, hT, k⟩ := h
    obtain ⟨kvs, ha, hR⟩ := hT.ex
    have hu := hu_of hr
    refine ⟨_, (pss_one (ps_ret (pe_dget2 hu (pe_dget2 hu (pv 0) (pv 1) pe_dnewK ⟨rfl, rfl, rfl, rfl⟩) (pv 2) pe_int ⟨rfl, rfl, rfl, rfl⟩))), ?_⟩
    (dsimp only [cxOf, Cx.nox, Cx.wish, L2.start, List.map, List.length, List.replicate, List.cons_append, List.nil_append, List.append_eq, Nat.reduceSub, Nat.reduceAdd])
    walk_at "my_rd"
    refine q_dNew fun d nd => ?_
    have ha2 := upd_new (w := .dK []) nd ha
    have sm : Same H (upd H d (.dK [])) := Same.up (Same.refl _) nd
    refine q_dG2S ha2 ?_
    rcases hR.val t with ⟨e1, e2⟩ | ⟨r, b, e1, e2, _, hb⟩
    · rw [e2]
      refine q_dG2a upd_same ?_
      walk_at "my_rd"
      refine q_dG2S upd_same ?_
      have e : heldT tb t x = 0 := by unfold heldT rowOf; rw [e1]; rfl
      have k2 := k _ sm
      rw [e] at k2
      exact k2
    · rw [e2]
      refine q_dG2a (sm _ _ hb) ?_
      walk_at "my_rd"
      refine q_dG2S (sm _ _ hb) ?_
      rw [rowK_get]
      have e : heldT tb t x = getRow r x := by unfold heldT rowOf; rw [e1]; rfl
      have k2 := k _ sm
      rw [e] at k2
      exact k2
theorem ok_put (T : Txt K mg) : FnOk P w K mg base CX0 1 T.f_put T.d_put ["table", "token", "name", "amount"] sp_put := by
  refine T.F_put.ok sc_put (fun vs H Q E h => ?_) (fun cdv A outer s H vs Q E hr h => ?_)
  · obtain ⟨a, t, x, i, tb, as, rfl, _⟩ := h; rfl
  · obtain ⟨a, t, x, i, tb, as, rfl, hT, hl1, hl2, k⟩ := h
    obtain ⟨kvs, ha, hR⟩ := hT.ex
    have hu := hu_of hr
    refine ⟨_, (pss_cons (ps_set (i := 4) sc_put.nd rfl (Or.inl rfl) (pe_dsetd (pv 0) (pv 1) pe_dnewK ⟨rfl, rfl, rfl, rfl⟩))
      (pss_one (ps_dput hu (pv 4) (pv 2) (pe_op op_add (pe_dget2 hu (pv 4) (pv 2) pe_int ⟨rfl, rfl, rfl, rfl⟩) (pv 3)) rfl))), ?_⟩
    (dsimp only [cxOf, Cx.nox, Cx.wish, L2.start, List.map, List.length, List.replicate, List.cons_append, List.nil_append, List.append_eq, Nat.reduceSub, Nat.reduceAdd])
    walk_at "my_rd"
    refine q_dNew fun d nd => ?_
    have ha2 := upd_new (w := .dK []) nd ha
    have nad : a ≠ d := ne_of_none ha nd
    have hda : d ∉ as := fun z => by
      obtain ⟨r, q⟩ := hR.mem z
      rw [nd] at q; cases q
    have sm : Same H (upd H d (.dK [])) := Same.up (Same.refl _) nd
    refine q_dSdS ha2 (by rw [hR.len]; exact small1000 (by omega)) (fun v hv => ?_) (fun hv => ?_)
    · rcases hR.val t with ⟨_, e2⟩ | ⟨r, b, e1, e2, hm, hb⟩
      · rw [e2] at hv; cases hv
      · rw [e2] at hv
        injection hv with hv
        subst hv
        have er : rowOf tb t = r := by unfold rowOf; rw [e1]; rfl
        have hb2 := sm _ _ hb
        have nba : b ≠ a := fun z => hT.out (z ▸ hm)
        have nbd : b ≠ d := fun z => hda (z ▸ hm)
        walk_at "my_rd"
        refine q_dG2S hb2 ?_
        rw [rowK_get]
        walk_at "my_rd"
        refine q_dPutS hb2 (by unfold rowK; rw [List.length_map, ← er]; exact small1000 (by omega)) ?_
        walk_at "my_rd"
        rw [rowK_put]
        refine k _ as ⟨⟨kvs, upd_other nba.symm ha2, ?_⟩, hT.out⟩ (fun c hc => .inl hc) ?_
        · unfold putT
          rw [er]
          exact hR.set e2 upd_same fun c _ hc o q => upd_other hc (sm _ _ q)
        · intro c o q hc
          exact upd_other (fun z => hc (List.mem_cons_of_mem _ (z ▸ hm))) (sm _ _ q)
    · rcases hR.val t with ⟨e1, e2⟩ | ⟨r, b, e1, e2, hm, hb⟩
      · have er : rowOf tb t = [] := by unfold rowOf; rw [e1]; rfl
        have hd2 : upd (upd H d (.dK [])) a (.dK (putK kvs (Sum.inr t) (.ref d))) d = some (.dK (rowK [])) := upd_other nad.symm upd_same
        walk_at "my_rd"
        refine q_dG2S hd2 ?_
        rw [rowK_get]
        walk_at "my_rd"
        refine q_dPutS hd2 (by show 0 < sizeLine; exact small1000 (by omega)) ?_
        walk_at "my_rd"
        rw [rowK_put, putK_new _ hv]
        refine k _ (as ++ [d]) ⟨⟨_, upd_other nad upd_same, ?_⟩, ?_⟩ (fun c hc => ?_) ?_
        · unfold putT
          rw [er]
          refine TRows.snoc (hR.mono fun c hc o q => ?_) e2 upd_same hda
          exact upd_other (fun z => hda (z ▸ hc)) (upd_other (fun z => hT.out (z ▸ hc)) (sm _ _ q))
        · intro z
          rcases List.mem_append.mp z with z | z
          · exact hT.out z
          · exact nad (List.mem_singleton.mp z)
        · rcases List.mem_append.mp hc with z | z
          · exact .inl z
          · exact .inr (List.mem_singleton.mp z ▸ nd)
        · intro c o q hc
          refine upd_other (ne_of_none q nd) (upd_other (fun z => hc (z ▸ List.mem_cons_self)) (sm _ _ q))
      · rw [e2] at hv; cases hv
end

local macro_rules | `(tactic| walk_at "my_rd") => `(tactic| (repeat first
  | with_reducible refine q_tCons ?_
  | ((with_reducible apply q_var); (focus (exact rfl)))
  | with_reducible refine q_c ?_
  | ((with_reducible apply q_nxE); (focus (with_reducible exact rfl)))
  | with_reducible refine q_bK ?_
  | with_reducible refine q_call ?_
  | with_reducible refine q_callK ?_
  | with_reducible refine q_tNil ?_
  | with_reducible refine q_cb ?_
  | with_reducible refine q_seq ?_
  | with_reducible refine q_asg ?_
  | with_reducible refine q_gName ?_
  | with_reducible refine q_op ?_
  | with_reducible refine q_test ?_
  | with_reducible refine q_tB ?_
  | with_reducible refine q_ifS ?_
  | with_reducible refine q_ret ?_
  | ((with_reducible apply q_rtE); (focus (with_reducible exact rfl)))
  | with_reducible refine q_next ?_
  | with_reducible refine q_ifF ?_
  | with_reducible refine q_ifT ?_
  | with_reducible refine q_drop ?_
  | with_reducible refine q_and ?_
  | with_reducible refine q_or ?_
  | with_reducible refine q_andT ?_
  | with_reducible refine q_andF ?_
  | with_reducible refine q_orF ?_
  | with_reducible refine q_orT ?_
  | with_reducible refine q_andV ?_
  | with_reducible refine q_andVT ?_
  | with_reducible refine q_andVF ?_
  | with_reducible refine q_orV ?_
  | with_reducible refine q_gCons ?_
  | with_reducible refine q_gNil ?_
  | with_reducible refine q_tup ?_
  | with_reducible refine q_lst ?_
  | with_reducible refine q_not ?_
  | with_reducible refine q_notKT ?_
  | with_reducible refine q_notKF ?_
  | with_reducible refine q_I0 ?_
  | with_reducible refine q_eqI ?_
  | with_reducible refine q_neI ?_
  | ((with_reducible refine q_I ?_ ?_); first | decide | omega | exact ⟨by omega, by omega⟩ | exact ⟨by decide, by decide⟩ | exact .inl ⟨by omega, by omega⟩ | exact .inr ⟨by omega, by omega⟩ | exact .inr ⟨by decide, by decide⟩)
  | with_reducible refine q_eqS ?_
  | with_reducible refine q_neS ?_
  | with_reducible refine q_brk ?_
  | with_reducible refine q_ct ?_
  | ((with_reducible apply q_bkE); (focus (with_reducible exact rfl)))
  | ((with_reducible apply q_cnE); (focus (with_reducible exact rfl)))
  | with_reducible refine q_retN ?_
  | with_reducible refine q_gSub ?_
  | with_reducible refine q_for ?_
  | with_reducible refine q_iList ?_
  | with_reducible refine q_iTup ?_
  | with_reducible refine q_iRng1 ?_
  | with_reducible refine q_notK ?_
  | with_reducible refine q_orVT ?_
  | with_reducible refine q_orVF ?_
  | with_reducible refine q_notV ?_
  | with_reducible refine q_notVK ?_
  | with_reducible refine q_ifE ?_
  | with_reducible refine q_ifET ?_
  | with_reducible refine q_ifEF ?_
  | with_reducible refine q_yes ?_
  | with_reducible refine q_un ?_
  | with_reducible refine q_rU ?_
  | with_reducible refine q_abs ?_
  | with_reducible refine q_int1 ?_
  | with_reducible refine q_bm ?_
  | with_reducible refine q_bm0 ?_
  | with_reducible refine q_lc ?_
  | with_reducible refine q_keepT ?_
  | with_reducible refine q_keepF ?_
  | ((with_reducible apply q_aug); (focus (exact rfl)))
  | with_reducible refine q_ipI ?_
  | with_reducible refine q_chain ?_
  | with_reducible refine q_pairC ?_
  | with_reducible refine q_pairsK ?_
  | with_reducible refine q_pairN ?_
  | with_reducible refine q_fld ?_
  | with_reducible refine q_sFld ?_
  | with_reducible refine q_meth ?_
  | with_reducible refine q_makeK ?_
  | with_reducible refine q_isBl ?_
  | with_reducible refine q_notBl ?_
  | with_reducible refine q_sl ?_
  | with_reducible refine q_noPart ?_
  | with_reducible refine q_part ?_
  | with_reducible refine q_partK ?_
  | ((with_reducible apply q_mulStr); (focus (decide +kernel)))
  | with_reducible refine q_chT ?_
  | with_reducible refine q_chF ?_
  | with_reducible refine q_ord ?_
  | with_reducible refine q_iStr0 ?_
  | with_reducible refine q_iStr ?_
  | with_reducible refine q_tDIn ?_
  | with_reducible refine q_tDNotIn ?_
  | with_reducible refine q_tDGet ?_
  | with_reducible refine q_tDGet2 ?_
  | with_reducible refine q_tDGet1 ?_
  | with_reducible refine q_tDSetd ?_
  | ((with_reducible apply q_dG2a); (focus ((repeat first | (with_reducible exact upd_same) | (with_reducible assumption) | (with_reducible apply upd_new (by assumption)) | (with_reducible apply upd_other (by first | assumption | exact Ne.symm (by assumption))) | (with_reducible refine' Kp.get (by assumption) ?_ (by first | assumption | exact Ne.symm (by assumption))) | (with_reducible apply Same.get (by assumption))); done)))
  | ((with_reducible apply q_dSda); (focus ((repeat first | (with_reducible exact upd_same) | (with_reducible assumption) | (with_reducible apply upd_new (by assumption)) | (with_reducible apply upd_other (by first | assumption | exact Ne.symm (by assumption))) | (with_reducible refine' Kp.get (by assumption) ?_ (by first | assumption | exact Ne.symm (by assumption))) | (with_reducible apply Same.get (by assumption))); done)))
  | with_reducible refine q_sDPut ?_
  | ((with_reducible apply q_dInS); (focus ((repeat first | (with_reducible exact upd_same) | (with_reducible assumption) | (with_reducible apply upd_new (by assumption)) | (with_reducible apply upd_other (by first | assumption | exact Ne.symm (by assumption))) | (with_reducible refine' Kp.get (by assumption) ?_ (by first | assumption | exact Ne.symm (by assumption))) | (with_reducible apply Same.get (by assumption))); done)))
  | ((with_reducible apply q_dNInS); (focus ((repeat first | (with_reducible exact upd_same) | (with_reducible assumption) | (with_reducible apply upd_new (by assumption)) | (with_reducible apply upd_other (by first | assumption | exact Ne.symm (by assumption))) | (with_reducible refine' Kp.get (by assumption) ?_ (by first | assumption | exact Ne.symm (by assumption))) | (with_reducible apply Same.get (by assumption))); done)))
  | ((with_reducible apply q_dInI); (focus ((repeat first | (with_reducible exact upd_same) | (with_reducible assumption) | (with_reducible apply upd_new (by assumption)) | (with_reducible apply upd_other (by first | assumption | exact Ne.symm (by assumption))) | (with_reducible refine' Kp.get (by assumption) ?_ (by first | assumption | exact Ne.symm (by assumption))) | (with_reducible apply Same.get (by assumption))); done)))
  | ((with_reducible apply q_dNInI); (focus ((repeat first | (with_reducible exact upd_same) | (with_reducible assumption) | (with_reducible apply upd_new (by assumption)) | (with_reducible apply upd_other (by first | assumption | exact Ne.symm (by assumption))) | (with_reducible refine' Kp.get (by assumption) ?_ (by first | assumption | exact Ne.symm (by assumption))) | (with_reducible apply Same.get (by assumption))); done)))
  | ((with_reducible apply q_bmL); (focus ((repeat first | (with_reducible exact upd_same) | (with_reducible assumption) | (with_reducible apply upd_new (by assumption)) | (with_reducible apply upd_other (by first | assumption | exact Ne.symm (by assumption))) | (with_reducible refine' Kp.get (by assumption) ?_ (by first | assumption | exact Ne.symm (by assumption))) | (with_reducible apply Same.get (by assumption))); done)))
  | ((with_reducible apply q_bmL0); (focus ((repeat first | (with_reducible exact upd_same) | (with_reducible assumption) | (with_reducible apply upd_new (by assumption)) | (with_reducible apply upd_other (by first | assumption | exact Ne.symm (by assumption))) | (with_reducible refine' Kp.get (by assumption) ?_ (by first | assumption | exact Ne.symm (by assumption))) | (with_reducible apply Same.get (by assumption))); done)))
  | ((with_reducible apply q_ixLt); (focus ((repeat first | (with_reducible exact upd_same) | (with_reducible assumption) | (with_reducible apply upd_new (by assumption)) | (with_reducible apply upd_other (by first | assumption | exact Ne.symm (by assumption))) | (with_reducible refine' Kp.get (by assumption) ?_ (by first | assumption | exact Ne.symm (by assumption))) | (with_reducible apply Same.get (by assumption))); done)); (focus (exact rfl)))
  | ((with_reducible apply q_ixTt); (focus ((repeat first | (with_reducible exact upd_same) | (with_reducible assumption) | (with_reducible apply upd_new (by assumption)) | (with_reducible apply upd_other (by first | assumption | exact Ne.symm (by assumption))) | (with_reducible refine' Kp.get (by assumption) ?_ (by first | assumption | exact Ne.symm (by assumption))) | (with_reducible apply Same.get (by assumption))); done)); (focus (exact rfl)))
  | ((with_reducible apply q_lenLt); (focus ((repeat first | (with_reducible exact upd_same) | (with_reducible assumption) | (with_reducible apply upd_new (by assumption)) | (with_reducible apply upd_other (by first | assumption | exact Ne.symm (by assumption))) | (with_reducible refine' Kp.get (by assumption) ?_ (by first | assumption | exact Ne.symm (by assumption))) | (with_reducible apply Same.get (by assumption))); done)))
  | ((with_reducible apply q_lenTt); (focus ((repeat first | (with_reducible exact upd_same) | (with_reducible assumption) | (with_reducible apply upd_new (by assumption)) | (with_reducible apply upd_other (by first | assumption | exact Ne.symm (by assumption))) | (with_reducible refine' Kp.get (by assumption) ?_ (by first | assumption | exact Ne.symm (by assumption))) | (with_reducible apply Same.get (by assumption))); done)))
  | ((with_reducible apply q_append); (focus ((repeat first | (with_reducible exact upd_same) | (with_reducible assumption) | (with_reducible apply upd_new (by assumption)) | (with_reducible apply upd_other (by first | assumption | exact Ne.symm (by assumption))) | (with_reducible refine' Kp.get (by assumption) ?_ (by first | assumption | exact Ne.symm (by assumption))) | (with_reducible apply Same.get (by assumption))); done)); (focus ((first | (exact Nat.lt_of_ble_eq_true rfl) | (simp only [List.length_append, List.length_cons, List.length_nil, List.length_map]; exact small1000 (by omega))))))
  | ((with_reducible apply q_setL); (focus ((repeat first | (with_reducible exact upd_same) | (with_reducible assumption) | (with_reducible apply upd_new (by assumption)) | (with_reducible apply upd_other (by first | assumption | exact Ne.symm (by assumption))) | (with_reducible refine' Kp.get (by assumption) ?_ (by first | assumption | exact Ne.symm (by assumption))) | (with_reducible apply Same.get (by assumption))); done)); (focus (exact rfl)))
  | with_reducible refine q_ifNT ?_
  | with_reducible refine q_ifNF ?_
  | with_reducible refine q_andNT ?_
  | with_reducible refine q_andNF ?_
  | with_reducible refine q_orNT ?_
  | with_reducible refine q_orNF ?_
  | with_reducible refine q_bKNT ?_
  | with_reducible refine q_bKNF ?_
  | with_reducible refine q_tNGet ?_
  | with_reducible refine q_tNIn ?_
  | with_reducible refine q_sNPut ?_
  | with_reducible refine q_sFldAug ?_
  | with_reducible refine q_sDAug ?_
  | with_reducible refine q_sDDel ?_
  | with_reducible refine q_forX ?_
  | with_reducible refine q_tMake ?_
  | ((with_reducible apply q_dG1a); (focus ((repeat first | (with_reducible exact upd_same) | (with_reducible assumption) | (with_reducible apply upd_new (by assumption)) | (with_reducible apply upd_other (by first | assumption | exact Ne.symm (by assumption))) | (with_reducible refine' Kp.get (by assumption) ?_ (by first | assumption | exact Ne.symm (by assumption))) | (with_reducible apply Same.get (by assumption))); done)))))
/-! Sheet.__init__ -/
theorem putRow_len (r : Row) (x : Str) (i : Int) : (putRow r x i).length ≤ r.length + 1 := by
  unfold putRow
  split
  · rw [List.length_map]; omega
  · rw [List.length_append]; exact Nat.le_refl _
theorem tabAt_cons (t' : Str) (r' : Row) (tb : Tab2) (t : Str) : tabAt ((t', r') :: tb) t = if t' = t then some r' else tabAt tb t := by
  unfold tabAt
  by_cases e : t' = t
  · rw [if_pos e, List.find?_cons_of_pos (by rw [decide_eq_true e])]; rfl
  · rw [if_neg e, List.find?_cons_of_neg (by rw [decide_eq_false e]; exact Bool.false_ne_true)]
theorem tabAt_set (tb : Tab2) (t : Str) (r : Row) (t2 : Str) : tabAt (setRow tb t r) t2 = if t = t2 then some r else tabAt tb t2 := by
  induction tb with
  | nil => exact tabAt_cons t r [] t2
  | cons p tb ih =>
    obtain ⟨t', r'⟩ := p
    show tabAt (if t' = t then _ else _) t2 = _
    by_cases e : t' = t
    · rw [if_pos e, tabAt_cons, tabAt_cons]
      subst e
      by_cases e2 : t' = t2
      · rw [if_pos e2, if_pos e2]
      · rw [if_neg e2, if_neg e2, if_neg e2]
    · rw [if_neg e, tabAt_cons, tabAt_cons, ih]
      by_cases e2 : t' = t2
      · rw [if_pos e2, if_pos e2, if_neg (fun z => e (e2.trans z.symm))]
      · rw [if_neg e2, if_neg e2]
theorem setRow_len (tb : Tab2) (t : Str) (r : Row) : (setRow tb t r).length ≤ tb.length + 1 := by
  induction tb with
  | nil => exact Nat.le_refl _
  | cons p tb ih =>
    obtain ⟨t', r'⟩ := p
    show (if t' = t then _ else _ : Tab2).length ≤ _
    split
    · exact Nat.le_succ _
    · exact Nat.succ_le_succ ih
/-- no more than n tokens, no row with more than n names -/
structure TabB (n : Nat) (tb : Tab2) : Prop where
  len : tb.length ≤ n
  row : ∀ t, (rowOf tb t).length ≤ n
theorem TabB.nil : TabB 0 [] := ⟨Nat.le_refl _, fun _ => Nat.le_refl _⟩
theorem rowOf_put (tb : Tab2) (t x : Str) (i : Int) (t2 : Str) : rowOf (putT tb t x i) t2 = if t = t2 then putRow (rowOf tb t) x (getRow (rowOf tb t) x + i) else rowOf tb t2 := by
  unfold putT
  show (tabAt (setRow tb t _) t2).getD [] = _
  rw [tabAt_set]
  split <;> rfl
theorem TabB.put {n : Nat} {tb : Tab2} (h : TabB n tb) (t x : Str) (i : Int) : TabB (n + 1) (putT tb t x i) := by
  refine ⟨Nat.le_trans (setRow_len _ _ _) (Nat.succ_le_succ h.len), fun t2 => ?_⟩
  rw [rowOf_put]
  split
  · exact Nat.le_trans (putRow_len _ _ _) (Nat.succ_le_succ (h.row t))
  · exact Nat.le_succ_of_le (h.row t2)
theorem TabB.mono {n m : Nat} {tb : Tab2} (h : TabB n tb) (e : n ≤ m) : TabB m tb := ⟨Nat.le_trans h.len e, fun t => Nat.le_trans (h.row t) e⟩
def openT (bs : List BalR) : Tab2 := bs.foldl (fun tb b => putT tb b.tok b.acc b.amt) []
theorem openT_snoc (bs : List BalR) (b : BalR) : openT (bs ++ [b]) = putT (openT bs) b.tok b.acc b.amt := by
  unfold openT
  rw [List.foldl_append]
  rfl
theorem openT_B (bs : List BalR) : ∀ n, n = bs.length → TabB n (openT bs) := by
  intro n
  induction n generalizing bs with
  | zero =>
    intro e
    have : bs = [] := List.length_eq_zero_iff.mp e.symm
    subst this
    exact TabB.nil
  | succ n ih =>
    intro e
    have hne : bs ≠ [] := by rintro rfl; cases e
    have e2 := List.dropLast_concat_getLast hne
    rw [← e2, openT_snoc]
    exact (ih _ (by rw [List.length_dropLast]; omega)).put _ _ _
/-- what a sheet holds, and where -/
structure Sh where
  cf : Addr
  side : Str
  ba : Addr
  bo : Addr
  va : Addr
  bal : Tab2
  bon : Tab2
  vau : Row
  bs : List Addr
  ds : List Addr
def Sh.foot (S : Sh) : List Addr := S.ba :: S.bs ++ (S.bo :: S.ds ++ [S.va])
def shNames : List Str := ["_config", "_side", "_balances", "_bonds", "_vaults"]
structure ShAt (C : Addr) (H : Hp) (x : Addr) (S : Sh) : Prop where
  ex : ∃ dx fs, H x = some (.ins C dx fs) ∧ fs.lookup ("_config" : Str) = some (.ref S.cf) ∧ fs.lookup ("_side" : Str) = some (.str S.side) ∧ fs.lookup ("_balances" : Str) = some (.ref S.ba) ∧ fs.lookup ("_bonds" : Str) = some (.ref S.bo) ∧ fs.lookup ("_vaults" : Str) = some (.ref S.va) ∧ (∀ m : Str, m ∉ shNames → fs.lookup m = none) ∧ fs.length ≤ 5
  b : TblAt H S.ba S.bal S.bs
  d : TblAt H S.bo S.bon S.ds
  v : H S.va = some (.dK (rowK S.vau))
  n1 : ∀ b ∈ S.ba :: S.bs, b ∉ S.bo :: S.ds
  n2 : S.va ∉ S.ba :: S.bs
  n3 : S.va ∉ S.bo :: S.ds
def sp_sheet (C Cc : Addr) : Sp := fun vs H Q _ => ∃ (x dx cf g : Addr) (c : Parts) (sd : Str), vs = [.ref x, .ref cf, .str sd] ∧ H x = some (.ins C dx []) ∧ CfgAt Cc c g H cf ∧ c.Ok ∧
  ∀ (H' : Hp) (S : Sh), ShAt C H' x S → S.cf = cf → S.side = sd → S.bal = openT (c.bals.filter fun b => decide (c.homeOf b.tok = sd)) → S.bon = [] → S.vau = [] → (∀ b ∈ S.foot, H b = none) → Kp x H H' → Q .non H'
theorem CfgAt.kp {C Cc : Addr} {c : Parts} {g : Addr} {H H' : Hp} {cf x dx : Addr} (h : CfgAt Cc c g H cf) (hx : H x = some (.ins C dx [])) (k : Kp x H H') : CfgAt Cc c g H' cf := by
  obtain ⟨dy, fs, td, bl, kvs, bv, h1, h2, h3, h4, h5, h6, h7, h8, h9, h10, h11, h12, h13⟩ := h.ex
  have ne : cf ≠ x := ne_of h1 hx (by
    intro z
    injection z with _ _ z
    subst z
    cases h2)
  exact ⟨dy, fs, td, bl, kvs, bv, k.get h1 ne, h2, h3, h4, h5, h6, h7, h8, h9, k.get h10 (ne_of h10 hx (by intro z; cases z)), h11.mono fun b ys q => k.get q (ne_of q hx (by intro z; cases z)), k.get h12 (ne_of h12 hx (by intro z; cases z)), h13.kp hx k⟩
section
variable {P : Program} {w : World} {K : PySem.W.Frag} {mg : Str → Option Value} {base : Heap}
theorem ok_Sheet_init (T : Txt K mg) : FnOk P w K mg base CX0 4 T.f_Sheet_init T.d_Sheet_init ["self", "config", "side"] (sp_sheet T.C_Sheet T.C_Config) := by
  refine T.F_Sheet_init.ok sc_Sheet_init (fun vs H Q E h => ?_) (fun cdv A outer s H vs Q E hr h => ?_)
  · obtain ⟨x, dx, cf, g, c, sd, rfl, _⟩ := h; rfl
  · obtain ⟨x, dx, cf, g, c, sd, rfl, hx, hC, hc, k⟩ := h
    have hu := hu_of hr
    refine ⟨_, (pss_cons (ps_fld (pv 0) (pv 1) rfl)
      (pss_cons (ps_fld (pv 0) (pv 2) rfl)
      (pss_cons (ps_fld (pv 0) pe_dnewK rfl)
      (pss_cons (ps_fld (pv 0) pe_dnewK rfl)
      (pss_cons (ps_fld (pv 0) pe_dnewK rfl)
      (pss_one (ps_for PassesOwn.never rfl (pi_list (pe_meth (pv 1) T.cl_Config T.m_Config_opening (ok_Config_opening T) (hr.mono (by decide)) T.b_Config_opening .nil pass0 (pa_cons (pv 2) pa_nil))) (pg_tup rfl (pgs_cons (pg_name (i := 3) sc_Sheet_init.nd rfl (Or.inl rfl)) (pgs_cons (pg_name (i := 4) sc_Sheet_init.nd rfl (Or.inl rfl)) (pgs_cons (pg_name (i := 5) sc_Sheet_init.nd rfl (Or.inl rfl)) pgs_nil))))
        (pss_one (ps_expr (pe_call (ok_put T) (hr.mono (by decide)) (by rfl) T.g_put T.F_put.kp T.b_put .nil pass0 (pa_cons (pe_fld (pv 0) rfl) (pa_cons (pv 4) (pa_cons (pv 3) (pa_cons (pv 5) pa_nil)))))))))))))), ?_⟩
    (dsimp only [cxOf, Cx.nox, Cx.wish, L2.start, List.map, List.length, List.replicate, List.cons_append, List.nil_append, List.append_eq, Nat.reduceSub, Nat.reduceAdd])
    walk_at "my_rd"
    refine q_fputK hx T.cl_Sheet T.n_Sheet_config (by show 0 < 1000; decide) ?_
    walk_at "my_rd"
    refine q_fputK upd_same T.cl_Sheet T.n_Sheet_side (Nat.lt_of_le_of_lt (q_fldlen (n := 0) (by show 0 ≤ 0; decide)) (by decide)) ?_
    walk_at "my_rd"
    rw [upd_upd]
    refine q_dNew fun ba nba => ?_
    have nxa : ba ≠ x := upd_none_ne nba
    have ba0 : H ba = none := upd_none_back nba
    walk_at "my_rd"
    refine q_fputK (upd_new nba upd_same) T.cl_Sheet T.n_Sheet_balances (Nat.lt_of_le_of_lt (q_fldlen (n := 1) (q_fldlen (n := 0) (by show 0 ≤ 0; decide))) (by decide)) ?_
    walk_at "my_rd"
    refine q_dNew fun bo nbo => ?_
    have nxo : bo ≠ x := upd_none_ne nbo
    have bo1 := upd_none_back nbo
    have nao : bo ≠ ba := upd_none_ne bo1
    have bo0 : H bo = none := upd_none_back (upd_none_back bo1)
    walk_at "my_rd"
    refine q_fputK (upd_new nbo upd_same) T.cl_Sheet T.n_Sheet_bonds (Nat.lt_of_le_of_lt (q_fldlen (n := 2) (q_fldlen (n := 1) (q_fldlen (n := 0) (by show 0 ≤ 0; decide)))) (by decide)) ?_
    walk_at "my_rd"
    refine q_dNew fun va nva => ?_
    have nxv : va ≠ x := upd_none_ne nva
    have va1 := upd_none_back nva
    have nvo : va ≠ bo := upd_none_ne va1
    have va2 := upd_none_back (upd_none_back va1)
    have nva2 : va ≠ ba := upd_none_ne va2
    have va0 : H va = none := upd_none_back (upd_none_back va2)
    walk_at "my_rd"
    refine q_fputK (upd_new nva upd_same) T.cl_Sheet T.n_Sheet_vaults (Nat.lt_of_le_of_lt (q_fldlen (n := 3) (q_fldlen (n := 2) (q_fldlen (n := 1) (q_fldlen (n := 0) (by show 0 ≤ 0; decide))))) (by decide)) ?_
    walk_at "my_rd"
    generalize hfs : putF (Str.ofString "_vaults") (V.ref va) _ = fs
    generalize hH5 : upd (upd _ va (.dK [])) x _ = H5
    have hx5 : H5 x = some (.ins T.C_Sheet dx fs) := by rw [← hH5]; exact upd_same
    have hv5 : H5 va = some (.dK []) := by rw [← hH5]; exact upd_other nxv upd_same
    have ho5 : H5 bo = some (.dK []) := by rw [← hH5]; exact upd_other nxo (upd_other nvo.symm (upd_other nxo upd_same))
    have ha5 : H5 ba = some (.dK []) := by rw [← hH5]; exact upd_other nxa (upd_other nva2.symm (upd_other nxa (upd_other nao.symm (upd_other nxa upd_same))))
    have kp5 : Kp x H H5 := by
      rw [← hH5]
      exact Kp.upd (Kp.new (Kp.upd (Kp.new (Kp.upd (Kp.new (Kp.upd Kp.refl) ba0)) bo0)) va0)
    have hf5 : ∀ z, H5 z = none → H z = none := fun z hz => Kp.fresh kp5 hx hz (fun e => by rw [e, hx5] at hz; cases hz)
    have hC5 : CfgAt T.C_Config c g H5 cf := hC.kp hx kp5
    clear hH5
    have lk1 : fs.lookup ("_config" : Str) = some (.ref cf) := by rw [← hfs]; (repeat first | rfl | rw [lookup_putF, if_pos rfl] | rw [lookup_putF, if_neg (by decide +kernel)])
    have lk2 : fs.lookup ("_side" : Str) = some (.str sd) := by rw [← hfs]; (repeat first | rfl | rw [lookup_putF, if_pos rfl] | rw [lookup_putF, if_neg (by decide +kernel)])
    have lk3 : fs.lookup ("_balances" : Str) = some (.ref ba) := by rw [← hfs]; (repeat first | rfl | rw [lookup_putF, if_pos rfl] | rw [lookup_putF, if_neg (by decide +kernel)])
    have lk4 : fs.lookup ("_bonds" : Str) = some (.ref bo) := by rw [← hfs]; (repeat first | rfl | rw [lookup_putF, if_pos rfl] | rw [lookup_putF, if_neg (by decide +kernel)])
    have lk5 : fs.lookup ("_vaults" : Str) = some (.ref va) := by rw [← hfs]; (repeat first | rfl | rw [lookup_putF, if_pos rfl] | rw [lookup_putF, if_neg (by decide +kernel)])
    have lk6 : ∀ m : Str, m ∉ shNames → fs.lookup m = none := by
      intro m hm
      have hne : ∀ z ∈ shNames, ¬ m = z := fun z hz e => hm (e ▸ hz)
      rw [← hfs, lookup_putF, if_neg (hne _ (by decide +kernel)), lookup_putF, if_neg (hne _ (by decide +kernel)), lookup_putF, if_neg (hne _ (by decide +kernel)), lookup_putF, if_neg (hne _ (by decide +kernel)), lookup_putF, if_neg (hne _ (by decide +kernel))]
      rfl
    have lk7 : fs.length ≤ 5 := by rw [← hfs]; exact q_fldlen (q_fldlen (q_fldlen (q_fldlen (q_fldlen (n := 0) (by show 0 ≤ 0; decide)))))
    clear hfs
    clear nva va1 va2 nbo bo1 nba
    obtain ⟨dy, gs, td, bl, kvs, bv, h1, h2, h3, h4, h5, h6, h7, h8, h9, h10, h11, h12, h13⟩ := hC5.ex
    walk_at "my_rd"
    refine q_methK h1 (h9 _ no_opening) fun R hR => ?_
    walk_at "my_rd"
    refine hR _ _ ⟨cf, g, c, sd, rfl, hC5, hc, fun p ys H6 np hp6 hR6 sm6 => ?_⟩
    have rsl : (c.bals.filter fun b => decide (c.homeOf b.tok = sd)).length ≤ c.bals.length := List.length_filter_le _ _
    generalize (c.bals.filter fun b => decide (c.homeOf b.tok = sd)) = rs at rsl k hR6
    have ha6 := sm6 _ _ ha5
    have ho6 := sm6 _ _ ho5
    have hv6 := sm6 _ _ hv5
    have hx6 := sm6 _ _ hx5
    have nxa6 : x ≠ ba := nxa.symm
    have npa : p ≠ ba := (ne_of_none ha5 np).symm
    have tab0 : TblAt H6 ba (openT (rs.take 0)) [] := ⟨⟨[], ha6, .nil⟩, by simp⟩
    refine q_forL (sqL hp6) (fun i σ H' => ∃ (as : List Addr) (v1 v2 v3 : Option V), σ = [some (.ref x), some (.ref cf), some (.str sd), v1, v2, v3] ∧ TblAt H' ba (openT (rs.take i)) as ∧ (∀ b ∈ as, H6 b = none) ∧ Kp ba H6 H')
      ⟨[], none, none, none, rfl, tab0, by simp, Kp.refl⟩ (fun i σ H' _ ⟨_, _, _, _, _, _, _, kp⟩ => sqL (Kp.get kp hp6 npa)) ?_ ?_
    · rintro i v σ H7 hv ⟨as, v1, v2, v3, rfl, hT7, hn7, kp7⟩
      obtain ⟨b, r, hb, rfl, hr0⟩ := hR6.item hv
      have hr1 : H7 r = some (.tup [.str b.acc, .str b.tok, .int b.amt]) := Kp.get kp7 hr0 (ne_of hr0 ha6 (by intro z; cases z))
      have hi : i < rs.length := (List.getElem?_eq_some_iff.mp hb).1
      have hB := openT_B (rs.take i) i (by rw [List.length_take]; omega)
      have hbl := hc.bl
      refine q_gTup (sqT hr1) rfl ?_
      walk_at "my_rd"
      refine q_fldK (Kp.get kp7 hx6 nxa6) T.cl_Sheet T.n_Sheet_balances lk3 ?_
      walk_at "my_rd"
      refine ⟨ba, b.tok, b.acc, b.amt, openT (rs.take i), as, rfl, hT7, by have := hB.len; omega, by have := hB.row b.tok; omega, fun H8 as' hT8 hn8 kp8 => ?_⟩
      walk_at "my_rd"
      refine ⟨as', _, _, _, rfl, ?_, ?_, ?_⟩
      · rw [take_snoc hb, openT_snoc]; exact hT8
      · intro z hz
        rcases hn8 z hz with m | m
        · exact hn7 z m
        · refine Kp.fresh kp7 ha6 m fun e => ?_
          obtain ⟨_, q, _⟩ := hT7.ex
          rw [e, q] at m
          cases m
      · intro z o q nz
        refine kp8 z o (kp7 z o q nz) fun m => ?_
        rcases List.mem_cons.mp m with m | m
        · exact nz m
        · rw [hn7 z m] at q; cases q
    · rintro σ H7 ⟨as, v1, v2, v3, rfl, hT7, hn7, kp7⟩
      rw [hR6.len, List.take_length] at hT7
      walk_at "my_rd"
      have out6 : ∀ z o, H6 z = some o → z ∉ as := fun z o q m => by rw [hn7 z m] at q; cases q
      have nva6 : va ≠ ba := nva2
      refine k H7 ⟨cf, sd, ba, bo, va, openT rs, [], [], as, []⟩ ⟨⟨dx, fs, Kp.get kp7 hx6 nxa6, lk1, lk2, lk3, lk4, lk5, lk6, lk7⟩, hT7, ⟨⟨[], Kp.get kp7 ho6 nao, .nil⟩, by simp⟩, Kp.get kp7 hv6 nva2, ?_, ?_, ?_⟩ rfl rfl rfl rfl rfl ?_ ?_
      · intro z hz m
        have e : z = bo := List.mem_singleton.mp m
        subst e
        rcases List.mem_cons.mp hz with e | e
        · exact nao e
        · exact out6 _ _ ho6 e
      · intro m
        rcases List.mem_cons.mp m with e | e
        · exact nva2 e
        · exact out6 _ _ hv6 e
      · intro m
        exact nvo (List.mem_singleton.mp m)
      · intro z hz
        have hz2 : z ∈ ba :: as ++ (bo :: [] ++ [va]) := hz
        rcases List.mem_append.mp hz2 with m | m
        · rcases List.mem_cons.mp m with e | e
          · exact e ▸ ba0
          · refine hf5 z ?_
            cases q : H5 z with
            | none => rfl
            | some o => exact absurd e (out6 _ _ (sm6 _ _ q))
        · rcases List.mem_cons.mp m with e | e
          · exact e ▸ bo0
          · exact List.mem_singleton.mp e ▸ va0
      · intro z o q nz
        exact kp7 z o (sm6 _ _ (kp5 z o q nz)) fun e => by rw [e, ba0] at q; cases q
end

local macro_rules | `(tactic| walk_at "my_rd") => `(tactic| (repeat first
  | with_reducible refine q_tCons ?_
  | ((with_reducible apply q_var); (focus (exact rfl)))
  | with_reducible refine q_c ?_
  | ((with_reducible apply q_nxE); (focus (with_reducible exact rfl)))
  | with_reducible refine q_bK ?_
  | with_reducible refine q_call ?_
  | with_reducible refine q_callK ?_
  | with_reducible refine q_tNil ?_
  | with_reducible refine q_cb ?_
  | with_reducible refine q_seq ?_
  | with_reducible refine q_asg ?_
  | with_reducible refine q_gName ?_
  | with_reducible refine q_op ?_
  | with_reducible refine q_test ?_
  | with_reducible refine q_tB ?_
  | with_reducible refine q_ifS ?_
  | with_reducible refine q_ret ?_
  | ((with_reducible apply q_rtE); (focus (with_reducible exact rfl)))
  | with_reducible refine q_next ?_
  | with_reducible refine q_ifF ?_
  | with_reducible refine q_ifT ?_
  | with_reducible refine q_drop ?_
  | with_reducible refine q_and ?_
  | with_reducible refine q_or ?_
  | with_reducible refine q_andT ?_
  | with_reducible refine q_andF ?_
  | with_reducible refine q_orF ?_
  | with_reducible refine q_orT ?_
  | with_reducible refine q_andV ?_
  | with_reducible refine q_andVT ?_
  | with_reducible refine q_andVF ?_
  | with_reducible refine q_orV ?_
  | with_reducible refine q_gCons ?_
  | with_reducible refine q_gNil ?_
  | with_reducible refine q_tup ?_
  | with_reducible refine q_lst ?_
  | with_reducible refine q_not ?_
  | with_reducible refine q_notKT ?_
  | with_reducible refine q_notKF ?_
  | with_reducible refine q_I0 ?_
  | with_reducible refine q_eqI ?_
  | with_reducible refine q_neI ?_
  | ((with_reducible refine q_I ?_ ?_); first | decide | omega | exact ⟨by omega, by omega⟩ | exact ⟨by decide, by decide⟩ | exact .inl ⟨by omega, by omega⟩ | exact .inr ⟨by omega, by omega⟩ | exact .inr ⟨by decide, by decide⟩)
  | with_reducible refine q_eqS ?_
  | with_reducible refine q_neS ?_
  | with_reducible refine q_brk ?_
  | with_reducible refine q_ct ?_
  | ((with_reducible apply q_bkE); (focus (with_reducible exact rfl)))
  | ((with_reducible apply q_cnE); (focus (with_reducible exact rfl)))
  | with_reducible refine q_retN ?_
  | with_reducible refine q_gSub ?_
  | with_reducible refine q_for ?_
  | with_reducible refine q_iList ?_
  | with_reducible refine q_iTup ?_
  | with_reducible refine q_iRng1 ?_
  | with_reducible refine q_notK ?_
  | with_reducible refine q_orVT ?_
  | with_reducible refine q_orVF ?_
  | with_reducible refine q_notV ?_
  | with_reducible refine q_notVK ?_
  | with_reducible refine q_ifE ?_
  | with_reducible refine q_ifET ?_
  | with_reducible refine q_ifEF ?_
  | with_reducible refine q_yes ?_
  | with_reducible refine q_un ?_
  | with_reducible refine q_rU ?_
  | with_reducible refine q_abs ?_
  | with_reducible refine q_int1 ?_
  | with_reducible refine q_bm ?_
  | with_reducible refine q_bm0 ?_
  | with_reducible refine q_lc ?_
  | with_reducible refine q_keepT ?_
  | with_reducible refine q_keepF ?_
  | ((with_reducible apply q_aug); (focus (exact rfl)))
  | with_reducible refine q_ipI ?_
  | with_reducible refine q_chain ?_
  | with_reducible refine q_pairC ?_
  | with_reducible refine q_pairsK ?_
  | with_reducible refine q_pairN ?_
  | with_reducible refine q_fld ?_
  | with_reducible refine q_sFld ?_
  | with_reducible refine q_meth ?_
  | with_reducible refine q_makeK ?_
  | with_reducible refine q_isBl ?_
  | with_reducible refine q_notBl ?_
  | with_reducible refine q_sl ?_
  | with_reducible refine q_noPart ?_
  | with_reducible refine q_part ?_
  | with_reducible refine q_partK ?_
  | ((with_reducible apply q_mulStr); (focus (decide +kernel)))
  | with_reducible refine q_chT ?_
  | with_reducible refine q_chF ?_
  | with_reducible refine q_ord ?_
  | with_reducible refine q_iStr0 ?_
  | with_reducible refine q_iStr ?_
  | with_reducible refine q_tDIn ?_
  | with_reducible refine q_tDNotIn ?_
  | with_reducible refine q_tDGet ?_
  | with_reducible refine q_tDGet2 ?_
  | with_reducible refine q_tDGet1 ?_
  | with_reducible refine q_tDSetd ?_
  | ((with_reducible apply q_dG2a); (focus ((repeat first | (with_reducible exact upd_same) | (with_reducible assumption) | (with_reducible apply upd_new (by assumption)) | (with_reducible apply upd_other (by first | assumption | exact Ne.symm (by assumption))) | (with_reducible refine' Kp.get (by assumption) ?_ (by first | assumption | exact Ne.symm (by assumption))) | (with_reducible apply Same.get (by assumption))); done)))
  | ((with_reducible apply q_dSda); (focus ((repeat first | (with_reducible exact upd_same) | (with_reducible assumption) | (with_reducible apply upd_new (by assumption)) | (with_reducible apply upd_other (by first | assumption | exact Ne.symm (by assumption))) | (with_reducible refine' Kp.get (by assumption) ?_ (by first | assumption | exact Ne.symm (by assumption))) | (with_reducible apply Same.get (by assumption))); done)))
  | with_reducible refine q_sDPut ?_
  | ((with_reducible apply q_dInS); (focus ((repeat first | (with_reducible exact upd_same) | (with_reducible assumption) | (with_reducible apply upd_new (by assumption)) | (with_reducible apply upd_other (by first | assumption | exact Ne.symm (by assumption))) | (with_reducible refine' Kp.get (by assumption) ?_ (by first | assumption | exact Ne.symm (by assumption))) | (with_reducible apply Same.get (by assumption))); done)))
  | ((with_reducible apply q_dNInS); (focus ((repeat first | (with_reducible exact upd_same) | (with_reducible assumption) | (with_reducible apply upd_new (by assumption)) | (with_reducible apply upd_other (by first | assumption | exact Ne.symm (by assumption))) | (with_reducible refine' Kp.get (by assumption) ?_ (by first | assumption | exact Ne.symm (by assumption))) | (with_reducible apply Same.get (by assumption))); done)))
  | ((with_reducible apply q_dInI); (focus ((repeat first | (with_reducible exact upd_same) | (with_reducible assumption) | (with_reducible apply upd_new (by assumption)) | (with_reducible apply upd_other (by first | assumption | exact Ne.symm (by assumption))) | (with_reducible refine' Kp.get (by assumption) ?_ (by first | assumption | exact Ne.symm (by assumption))) | (with_reducible apply Same.get (by assumption))); done)))
  | ((with_reducible apply q_dNInI); (focus ((repeat first | (with_reducible exact upd_same) | (with_reducible assumption) | (with_reducible apply upd_new (by assumption)) | (with_reducible apply upd_other (by first | assumption | exact Ne.symm (by assumption))) | (with_reducible refine' Kp.get (by assumption) ?_ (by first | assumption | exact Ne.symm (by assumption))) | (with_reducible apply Same.get (by assumption))); done)))
  | ((with_reducible apply q_bmL); (focus ((repeat first | (with_reducible exact upd_same) | (with_reducible assumption) | (with_reducible apply upd_new (by assumption)) | (with_reducible apply upd_other (by first | assumption | exact Ne.symm (by assumption))) | (with_reducible refine' Kp.get (by assumption) ?_ (by first | assumption | exact Ne.symm (by assumption))) | (with_reducible apply Same.get (by assumption))); done)))
  | ((with_reducible apply q_bmL0); (focus ((repeat first | (with_reducible exact upd_same) | (with_reducible assumption) | (with_reducible apply upd_new (by assumption)) | (with_reducible apply upd_other (by first | assumption | exact Ne.symm (by assumption))) | (with_reducible refine' Kp.get (by assumption) ?_ (by first | assumption | exact Ne.symm (by assumption))) | (with_reducible apply Same.get (by assumption))); done)))
  | ((with_reducible apply q_ixLt); (focus ((repeat first | (with_reducible exact upd_same) | (with_reducible assumption) | (with_reducible apply upd_new (by assumption)) | (with_reducible apply upd_other (by first | assumption | exact Ne.symm (by assumption))) | (with_reducible refine' Kp.get (by assumption) ?_ (by first | assumption | exact Ne.symm (by assumption))) | (with_reducible apply Same.get (by assumption))); done)); (focus (exact rfl)))
  | ((with_reducible apply q_ixTt); (focus ((repeat first | (with_reducible exact upd_same) | (with_reducible assumption) | (with_reducible apply upd_new (by assumption)) | (with_reducible apply upd_other (by first | assumption | exact Ne.symm (by assumption))) | (with_reducible refine' Kp.get (by assumption) ?_ (by first | assumption | exact Ne.symm (by assumption))) | (with_reducible apply Same.get (by assumption))); done)); (focus (exact rfl)))
  | ((with_reducible apply q_lenLt); (focus ((repeat first | (with_reducible exact upd_same) | (with_reducible assumption) | (with_reducible apply upd_new (by assumption)) | (with_reducible apply upd_other (by first | assumption | exact Ne.symm (by assumption))) | (with_reducible refine' Kp.get (by assumption) ?_ (by first | assumption | exact Ne.symm (by assumption))) | (with_reducible apply Same.get (by assumption))); done)))
  | ((with_reducible apply q_lenTt); (focus ((repeat first | (with_reducible exact upd_same) | (with_reducible assumption) | (with_reducible apply upd_new (by assumption)) | (with_reducible apply upd_other (by first | assumption | exact Ne.symm (by assumption))) | (with_reducible refine' Kp.get (by assumption) ?_ (by first | assumption | exact Ne.symm (by assumption))) | (with_reducible apply Same.get (by assumption))); done)))
  | ((with_reducible apply q_append); (focus ((repeat first | (with_reducible exact upd_same) | (with_reducible assumption) | (with_reducible apply upd_new (by assumption)) | (with_reducible apply upd_other (by first | assumption | exact Ne.symm (by assumption))) | (with_reducible refine' Kp.get (by assumption) ?_ (by first | assumption | exact Ne.symm (by assumption))) | (with_reducible apply Same.get (by assumption))); done)); (focus ((first | (exact Nat.lt_of_ble_eq_true rfl) | (simp only [List.length_append, List.length_cons, List.length_nil, List.length_map]; exact small1000 (by omega))))))
  | ((with_reducible apply q_setL); (focus ((repeat first | (with_reducible exact upd_same) | (with_reducible assumption) | (with_reducible apply upd_new (by assumption)) | (with_reducible apply upd_other (by first | assumption | exact Ne.symm (by assumption))) | (with_reducible refine' Kp.get (by assumption) ?_ (by first | assumption | exact Ne.symm (by assumption))) | (with_reducible apply Same.get (by assumption))); done)); (focus (exact rfl)))
  | with_reducible refine q_ifNT ?_
  | with_reducible refine q_ifNF ?_
  | with_reducible refine q_andNT ?_
  | with_reducible refine q_andNF ?_
  | with_reducible refine q_orNT ?_
  | with_reducible refine q_orNF ?_
  | with_reducible refine q_bKNT ?_
  | with_reducible refine q_bKNF ?_
  | with_reducible refine q_tNGet ?_
  | with_reducible refine q_tNIn ?_
  | with_reducible refine q_sNPut ?_
  | with_reducible refine q_sFldAug ?_
  | with_reducible refine q_sDAug ?_
  | with_reducible refine q_sDDel ?_
  | with_reducible refine q_forX ?_
  | with_reducible refine q_tMake ?_
  | ((with_reducible apply q_dG1a); (focus ((repeat first | (with_reducible exact upd_same) | (with_reducible assumption) | (with_reducible apply upd_new (by assumption)) | (with_reducible apply upd_other (by first | assumption | exact Ne.symm (by assumption))) | (with_reducible refine' Kp.get (by assumption) ?_ (by first | assumption | exact Ne.symm (by assumption))) | (with_reducible apply Same.get (by assumption))); done)))))
/-! Sheet's methods that raise nothing -/
theorem TblAt.free {H : Hp} {a : Addr} {tb : Tab2} {as : List Addr} (h : TblAt H a tb as) {z : Addr} (hz : z ∈ a :: as) : ∃ kvs, H z = some (.dK kvs) := by
  obtain ⟨kvs, h1, h2⟩ := h.ex
  rcases List.mem_cons.mp hz with e | e
  · exact ⟨kvs, e ▸ h1⟩
  · obtain ⟨r, q⟩ := h2.mem e
    exact ⟨_, q⟩
theorem TblAt.kps {H H' : Hp} {a : Addr} {tb : Tab2} {as zs : List Addr} (h : TblAt H a tb as) (k : Kps zs H H') (d : ∀ b ∈ a :: as, b ∉ zs) : TblAt H' a tb as :=
  h.mono (fun o q => k _ o q (d a List.mem_cons_self)) fun b hb o q => k b o q (d b (List.mem_cons_of_mem _ hb))
theorem ShAt.same {C : Addr} {H H' : Hp} {x : Addr} {S : Sh} (h : ShAt C H x S) (e : Same H H') : ShAt C H' x S := by
  obtain ⟨dx, fs, h1, h2⟩ := h.ex
  exact ⟨⟨dx, fs, e _ _ h1, h2⟩, h.b.same e, h.d.same e, e _ _ h.v, h.n1, h.n2, h.n3⟩
theorem ShAt.setB {C : Addr} {H H' : Hp} {x : Addr} {S : Sh} {tb : Tab2} {bs : List Addr} (h : ShAt C H x S) (hT : TblAt H' S.ba tb bs) (hn : ∀ b ∈ bs, b ∈ S.bs ∨ H b = none) (k : Kps (S.ba :: S.bs) H H') : ShAt C H' x { S with bal := tb, bs := bs } := by
  obtain ⟨dx, fs, h1, h2⟩ := h.ex
  have hm : ∀ z ∈ S.ba :: bs, z ∈ S.ba :: S.bs ∨ H z = none := by
    intro z hz
    rcases List.mem_cons.mp hz with e | e
    · exact .inl (e ▸ List.mem_cons_self)
    · rcases hn z e with e | e
      · exact .inl (List.mem_cons_of_mem _ e)
      · exact .inr e
  have hd : ∀ b ∈ S.bo :: S.ds, b ∉ S.ba :: S.bs := fun b hb m => h.n1 b m hb
  refine ⟨⟨dx, fs, k _ _ h1 (fun m => ?_), h2⟩, hT, h.d.kps k hd, k _ _ h.v h.n2, fun b hb m => ?_, fun m => ?_, h.n3⟩
  · obtain ⟨kvs, q⟩ := h.b.free m
    rw [q] at h1; cases h1
  · rcases hm b hb with e | e
    · exact h.n1 b e m
    · obtain ⟨kvs, q⟩ := h.d.free m
      rw [q] at e; cases e
  · rcases hm _ m with e | e
    · exact h.n2 e
    · have := h.v
      rw [e] at this; cases this
theorem ShAt.setD {C : Addr} {H H' : Hp} {x : Addr} {S : Sh} {tb : Tab2} {ds : List Addr} (h : ShAt C H x S) (hT : TblAt H' S.bo tb ds) (hn : ∀ b ∈ ds, b ∈ S.ds ∨ H b = none) (k : Kps (S.bo :: S.ds) H H') : ShAt C H' x { S with bon := tb, ds := ds } := by
  obtain ⟨dx, fs, h1, h2⟩ := h.ex
  have hm : ∀ z ∈ S.bo :: ds, z ∈ S.bo :: S.ds ∨ H z = none := by
    intro z hz
    rcases List.mem_cons.mp hz with e | e
    · exact .inl (e ▸ List.mem_cons_self)
    · rcases hn z e with e | e
      · exact .inl (List.mem_cons_of_mem _ e)
      · exact .inr e
  refine ⟨⟨dx, fs, k _ _ h1 (fun m => ?_), h2⟩, h.b.kps k h.n1, hT, k _ _ h.v h.n3, fun b hb m => ?_, h.n2, fun m => ?_⟩
  · obtain ⟨kvs, q⟩ := h.d.free m
    rw [q] at h1; cases h1
  · rcases hm b m with e | e
    · exact h.n1 b hb e
    · obtain ⟨kvs, q⟩ := h.b.free hb
      rw [q] at e; cases e
  · rcases hm _ m with e | e
    · exact h.n3 e
    · have := h.v
      rw [e] at this; cases this
def sp_heldB (C : Addr) : Sp := fun vs H Q _ => ∃ (x : Addr) (S : Sh) (a t : Str), vs = [.ref x, .str a, .str t] ∧ ShAt C H x S ∧ ∀ H', Same H H' → Q (.int (heldT S.bal t a)) H'
def sp_heldD (C : Addr) : Sp := fun vs H Q _ => ∃ (x : Addr) (S : Sh) (a t : Str), vs = [.ref x, .str a, .str t] ∧ ShAt C H x S ∧ ∀ H', Same H H' → Q (.int (heldT S.bon t a)) H'
def sp_vault (C : Addr) : Sp := fun vs H Q _ => ∃ (x : Addr) (S : Sh) (t : Str), vs = [.ref x, .str t] ∧ ShAt C H x S ∧ Q (.int (getRow S.vau t)) H
def sp_mint (C : Addr) : Sp := fun vs H Q _ => ∃ (x : Addr) (S : Sh) (a t : Str) (i : Int), vs = [.ref x, .str a, .str t, .int i] ∧ ShAt C H x S ∧ S.bal.length < 1000 ∧ (rowOf S.bal t).length < 1000 ∧
  ∀ (H' : Hp) (bs : List Addr), ShAt C H' x { S with bal := putT S.bal t a i, bs := bs } → (∀ b ∈ bs, b ∈ S.bs ∨ H b = none) → Kps (S.ba :: S.bs) H H' → Q .non H'
section
variable {P : Program} {w : World} {K : PySem.W.Frag} {mg : Str → Option Value} {base : Heap}
theorem ok_Sheet_balance (T : Txt K mg) : FnOk P w K mg base CX0 2 T.f_Sheet_balance T.d_Sheet_balance ["self", "account", "token"] (sp_heldB T.C_Sheet) := by
  refine T.F_Sheet_balance.ok sc_Sheet_balance (fun vs H Q E h => ?_) (fun cdv A outer s H vs Q E hr h => ?_)
  · obtain ⟨x, S, a, t, rfl, _⟩ := h; rfl
  · obtain ⟨x, S, a, t, rfl, hS, k⟩ := h
    obtain ⟨dx, fs, h1, h2, h3, h4, h5, h6, h7⟩ := hS.ex
    have hu := hu_of hr
    refine ⟨_, (pss_one (ps_ret (pe_call (ok_held T) (hr.mono (by decide)) (by rfl) T.g_held T.F_held.kp T.b_held .nil pass0 (pa_cons (pe_fld (pv 0) rfl) (pa_cons (pv 2) (pa_cons (pv 1) pa_nil)))))), ?_⟩
    (dsimp only [cxOf, Cx.nox, Cx.wish, L2.start, List.map, List.length, List.replicate, List.cons_append, List.nil_append, List.append_eq, Nat.reduceSub, Nat.reduceAdd])
    walk_at "my_rd"
    refine q_fldK h1 T.cl_Sheet T.n_Sheet_balances h4 ?_
    walk_at "my_rd"
    exact ⟨_, t, a, S.bal, S.bs, rfl, hS.b, k⟩
theorem ok_Sheet_bonded (T : Txt K mg) : FnOk P w K mg base CX0 2 T.f_Sheet_bonded T.d_Sheet_bonded ["self", "guard", "token"] (sp_heldD T.C_Sheet) := by
  refine T.F_Sheet_bonded.ok sc_Sheet_bonded (fun vs H Q E h => ?_) (fun cdv A outer s H vs Q E hr h => ?_)
  · obtain ⟨x, S, a, t, rfl, _⟩ := h; rfl
  · obtain ⟨x, S, a, t, rfl, hS, k⟩ := h
    obtain ⟨dx, fs, h1, h2, h3, h4, h5, h6, h7⟩ := hS.ex
    have hu := hu_of hr
    refine ⟨_, (pss_one (ps_ret (pe_call (ok_held T) (hr.mono (by decide)) (by rfl) T.g_held T.F_held.kp T.b_held .nil pass0 (pa_cons (pe_fld (pv 0) rfl) (pa_cons (pv 2) (pa_cons (pv 1) pa_nil)))))), ?_⟩
    (dsimp only [cxOf, Cx.nox, Cx.wish, L2.start, List.map, List.length, List.replicate, List.cons_append, List.nil_append, List.append_eq, Nat.reduceSub, Nat.reduceAdd])
    walk_at "my_rd"
    refine q_fldK h1 T.cl_Sheet T.n_Sheet_bonds h5 ?_
    walk_at "my_rd"
    exact ⟨_, t, a, S.bon, S.ds, rfl, hS.d, k⟩
theorem ok_Sheet_vault (T : Txt K mg) : FnOk P w K mg base CX0 1 T.f_Sheet_vault T.d_Sheet_vault ["self", "token"] (sp_vault T.C_Sheet) := by
  refine T.F_Sheet_vault.ok sc_Sheet_vault (fun vs H Q E h => ?_) (fun cdv A outer s H vs Q E hr h => ?_)
  · obtain ⟨x, S, t, rfl, _⟩ := h; rfl
  · obtain ⟨x, S, t, rfl, hS, k⟩ := h
    obtain ⟨dx, fs, h1, h2, h3, h4, h5, h6, h7⟩ := hS.ex
    have hu := hu_of hr
    refine ⟨_, (pss_one (ps_ret (pe_dget2 hu (pe_fld (pv 0) rfl) (pv 1) pe_int ⟨rfl, rfl, rfl, rfl⟩))), ?_⟩
    (dsimp only [cxOf, Cx.nox, Cx.wish, L2.start, List.map, List.length, List.replicate, List.cons_append, List.nil_append, List.append_eq, Nat.reduceSub, Nat.reduceAdd])
    walk_at "my_rd"
    refine q_fldK h1 T.cl_Sheet T.n_Sheet_vaults h6 ?_
    refine q_dG2a hS.v ?_
    walk_at "my_rd"
    refine q_dG2S hS.v ?_
    rw [rowK_get]
    exact k
theorem ok_Sheet_mint (T : Txt K mg) : FnOk P w K mg base CX0 2 T.f_Sheet_mint T.d_Sheet_mint ["self", "account", "token", "units"] (sp_mint T.C_Sheet) := by
  refine T.F_Sheet_mint.ok sc_Sheet_mint (fun vs H Q E h => ?_) (fun cdv A outer s H vs Q E hr h => ?_)
  · obtain ⟨x, S, a, t, i, rfl, _⟩ := h; rfl
  · obtain ⟨x, S, a, t, i, rfl, hS, hl1, hl2, k⟩ := h
    obtain ⟨dx, fs, h1, h2, h3, h4, h5, h6, h7⟩ := hS.ex
    have hu := hu_of hr
    refine ⟨_, (pss_one (ps_expr (pe_call (ok_put T) (hr.mono (by decide)) (by rfl) T.g_put T.F_put.kp T.b_put .nil pass0 (pa_cons (pe_fld (pv 0) rfl) (pa_cons (pv 2) (pa_cons (pv 1) (pa_cons (pv 3) pa_nil))))))), ?_⟩
    (dsimp only [cxOf, Cx.nox, Cx.wish, L2.start, List.map, List.length, List.replicate, List.cons_append, List.nil_append, List.append_eq, Nat.reduceSub, Nat.reduceAdd])
    walk_at "my_rd"
    refine q_fldK h1 T.cl_Sheet T.n_Sheet_balances h4 ?_
    walk_at "my_rd"
    refine ⟨_, t, a, i, S.bal, S.bs, rfl, hS.b, hl1, hl2, fun H' bs hT hn kp => ?_⟩
    walk_at "my_rd"
    exact k H' bs (hS.setB hT hn kp) hn kp
end

local macro_rules | `(tactic| walk_at "my_rd") => `(tactic| (repeat first
  | with_reducible refine q_tCons ?_
  | ((with_reducible apply q_var); (focus (exact rfl)))
  | with_reducible refine q_c ?_
  | ((with_reducible apply q_nxE); (focus (with_reducible exact rfl)))
  | with_reducible refine q_bK ?_
  | with_reducible refine q_call ?_
  | with_reducible refine q_callK ?_
  | with_reducible refine q_tNil ?_
  | with_reducible refine q_cb ?_
  | with_reducible refine q_seq ?_
  | with_reducible refine q_asg ?_
  | with_reducible refine q_gName ?_
  | with_reducible refine q_op ?_
  | with_reducible refine q_test ?_
  | with_reducible refine q_tB ?_
  | with_reducible refine q_ifS ?_
  | with_reducible refine q_ret ?_
  | ((with_reducible apply q_rtE); (focus (with_reducible exact rfl)))
  | with_reducible refine q_next ?_
  | with_reducible refine q_ifF ?_
  | with_reducible refine q_ifT ?_
  | with_reducible refine q_drop ?_
  | with_reducible refine q_and ?_
  | with_reducible refine q_or ?_
  | with_reducible refine q_andT ?_
  | with_reducible refine q_andF ?_
  | with_reducible refine q_orF ?_
  | with_reducible refine q_orT ?_
  | with_reducible refine q_andV ?_
  | with_reducible refine q_andVT ?_
  | with_reducible refine q_andVF ?_
  | with_reducible refine q_orV ?_
  | with_reducible refine q_gCons ?_
  | with_reducible refine q_gNil ?_
  | with_reducible refine q_tup ?_
  | with_reducible refine q_lst ?_
  | with_reducible refine q_not ?_
  | with_reducible refine q_notKT ?_
  | with_reducible refine q_notKF ?_
  | with_reducible refine q_I0 ?_
  | with_reducible refine q_eqI ?_
  | with_reducible refine q_neI ?_
  | ((with_reducible refine q_I ?_ ?_); first | decide | omega | exact ⟨by omega, by omega⟩ | exact ⟨by decide, by decide⟩ | exact .inl ⟨by omega, by omega⟩ | exact .inr ⟨by omega, by omega⟩ | exact .inr ⟨by decide, by decide⟩)
  | with_reducible refine q_eqS ?_
  | with_reducible refine q_neS ?_
  | with_reducible refine q_brk ?_
  | with_reducible refine q_ct ?_
  | ((with_reducible apply q_bkE); (focus (with_reducible exact rfl)))
  | ((with_reducible apply q_cnE); (focus (with_reducible exact rfl)))
  | with_reducible refine q_retN ?_
  | with_reducible refine q_gSub ?_
  | with_reducible refine q_for ?_
  | with_reducible refine q_iList ?_
  | with_reducible refine q_iTup ?_
  | with_reducible refine q_iRng1 ?_
  | with_reducible refine q_notK ?_
  | with_reducible refine q_orVT ?_
  | with_reducible refine q_orVF ?_
  | with_reducible refine q_notV ?_
  | with_reducible refine q_notVK ?_
  | with_reducible refine q_ifE ?_
  | with_reducible refine q_ifET ?_
  | with_reducible refine q_ifEF ?_
  | with_reducible refine q_yes ?_
  | with_reducible refine q_un ?_
  | with_reducible refine q_rU ?_
  | with_reducible refine q_abs ?_
  | with_reducible refine q_int1 ?_
  | with_reducible refine q_bm ?_
  | with_reducible refine q_bm0 ?_
  | with_reducible refine q_lc ?_
  | with_reducible refine q_keepT ?_
  | with_reducible refine q_keepF ?_
  | ((with_reducible apply q_aug); (focus (exact rfl)))
  | with_reducible refine q_ipI ?_
  | with_reducible refine q_chain ?_
  | with_reducible refine q_pairC ?_
  | with_reducible refine q_pairsK ?_
  | with_reducible refine q_pairN ?_
  | with_reducible refine q_fld ?_
  | with_reducible refine q_sFld ?_
  | with_reducible refine q_meth ?_
  | with_reducible refine q_makeK ?_
  | with_reducible refine q_isBl ?_
  | with_reducible refine q_notBl ?_
  | with_reducible refine q_sl ?_
  | with_reducible refine q_noPart ?_
  | with_reducible refine q_part ?_
  | with_reducible refine q_partK ?_
  | ((with_reducible apply q_mulStr); (focus (decide +kernel)))
  | with_reducible refine q_chT ?_
  | with_reducible refine q_chF ?_
  | with_reducible refine q_ord ?_
  | with_reducible refine q_iStr0 ?_
  | with_reducible refine q_iStr ?_
  | with_reducible refine q_tDIn ?_
  | with_reducible refine q_tDNotIn ?_
  | with_reducible refine q_tDGet ?_
  | with_reducible refine q_tDGet2 ?_
  | with_reducible refine q_tDGet1 ?_
  | with_reducible refine q_tDSetd ?_
  | ((with_reducible apply q_dG2a); (focus ((repeat first | (with_reducible exact upd_same) | (with_reducible assumption) | (with_reducible apply upd_new (by assumption)) | (with_reducible apply upd_other (by first | assumption | exact Ne.symm (by assumption))) | (with_reducible refine' Kp.get (by assumption) ?_ (by first | assumption | exact Ne.symm (by assumption))) | (with_reducible apply Same.get (by assumption))); done)))
  | ((with_reducible apply q_dSda); (focus ((repeat first | (with_reducible exact upd_same) | (with_reducible assumption) | (with_reducible apply upd_new (by assumption)) | (with_reducible apply upd_other (by first | assumption | exact Ne.symm (by assumption))) | (with_reducible refine' Kp.get (by assumption) ?_ (by first | assumption | exact Ne.symm (by assumption))) | (with_reducible apply Same.get (by assumption))); done)))
  | with_reducible refine q_sDPut ?_
  | ((with_reducible apply q_dInS); (focus ((repeat first | (with_reducible exact upd_same) | (with_reducible assumption) | (with_reducible apply upd_new (by assumption)) | (with_reducible apply upd_other (by first | assumption | exact Ne.symm (by assumption))) | (with_reducible refine' Kp.get (by assumption) ?_ (by first | assumption | exact Ne.symm (by assumption))) | (with_reducible apply Same.get (by assumption))); done)))
  | ((with_reducible apply q_dNInS); (focus ((repeat first | (with_reducible exact upd_same) | (with_reducible assumption) | (with_reducible apply upd_new (by assumption)) | (with_reducible apply upd_other (by first | assumption | exact Ne.symm (by assumption))) | (with_reducible refine' Kp.get (by assumption) ?_ (by first | assumption | exact Ne.symm (by assumption))) | (with_reducible apply Same.get (by assumption))); done)))
  | ((with_reducible apply q_dInI); (focus ((repeat first | (with_reducible exact upd_same) | (with_reducible assumption) | (with_reducible apply upd_new (by assumption)) | (with_reducible apply upd_other (by first | assumption | exact Ne.symm (by assumption))) | (with_reducible refine' Kp.get (by assumption) ?_ (by first | assumption | exact Ne.symm (by assumption))) | (with_reducible apply Same.get (by assumption))); done)))
  | ((with_reducible apply q_dNInI); (focus ((repeat first | (with_reducible exact upd_same) | (with_reducible assumption) | (with_reducible apply upd_new (by assumption)) | (with_reducible apply upd_other (by first | assumption | exact Ne.symm (by assumption))) | (with_reducible refine' Kp.get (by assumption) ?_ (by first | assumption | exact Ne.symm (by assumption))) | (with_reducible apply Same.get (by assumption))); done)))
  | ((with_reducible apply q_bmL); (focus ((repeat first | (with_reducible exact upd_same) | (with_reducible assumption) | (with_reducible apply upd_new (by assumption)) | (with_reducible apply upd_other (by first | assumption | exact Ne.symm (by assumption))) | (with_reducible refine' Kp.get (by assumption) ?_ (by first | assumption | exact Ne.symm (by assumption))) | (with_reducible apply Same.get (by assumption))); done)))
  | ((with_reducible apply q_bmL0); (focus ((repeat first | (with_reducible exact upd_same) | (with_reducible assumption) | (with_reducible apply upd_new (by assumption)) | (with_reducible apply upd_other (by first | assumption | exact Ne.symm (by assumption))) | (with_reducible refine' Kp.get (by assumption) ?_ (by first | assumption | exact Ne.symm (by assumption))) | (with_reducible apply Same.get (by assumption))); done)))
  | ((with_reducible apply q_ixLt); (focus ((repeat first | (with_reducible exact upd_same) | (with_reducible assumption) | (with_reducible apply upd_new (by assumption)) | (with_reducible apply upd_other (by first | assumption | exact Ne.symm (by assumption))) | (with_reducible refine' Kp.get (by assumption) ?_ (by first | assumption | exact Ne.symm (by assumption))) | (with_reducible apply Same.get (by assumption))); done)); (focus (exact rfl)))
  | ((with_reducible apply q_ixTt); (focus ((repeat first | (with_reducible exact upd_same) | (with_reducible assumption) | (with_reducible apply upd_new (by assumption)) | (with_reducible apply upd_other (by first | assumption | exact Ne.symm (by assumption))) | (with_reducible refine' Kp.get (by assumption) ?_ (by first | assumption | exact Ne.symm (by assumption))) | (with_reducible apply Same.get (by assumption))); done)); (focus (exact rfl)))
  | ((with_reducible apply q_lenLt); (focus ((repeat first | (with_reducible exact upd_same) | (with_reducible assumption) | (with_reducible apply upd_new (by assumption)) | (with_reducible apply upd_other (by first | assumption | exact Ne.symm (by assumption))) | (with_reducible refine' Kp.get (by assumption) ?_ (by first | assumption | exact Ne.symm (by assumption))) | (with_reducible apply Same.get (by assumption))); done)))
  | ((with_reducible apply q_lenTt); (focus ((repeat first | (with_reducible exact upd_same) | (with_reducible assumption) | (with_reducible apply upd_new (by assumption)) | (with_reducible apply upd_other (by first | assumption | exact Ne.symm (by assumption))) | (with_reducible refine' Kp.get (by assumption) ?_ (by first | assumption | exact Ne.symm (by assumption))) | (with_reducible apply Same.get (by assumption))); done)))
  | ((with_reducible apply q_append); (focus ((repeat first | (with_reducible exact upd_same) | (with_reducible assumption) | (with_reducible apply upd_new (by assumption)) | (with_reducible apply upd_other (by first | assumption | exact Ne.symm (by assumption))) | (with_reducible refine' Kp.get (by assumption) ?_ (by first | assumption | exact Ne.symm (by assumption))) | (with_reducible apply Same.get (by assumption))); done)); (focus ((first | (exact Nat.lt_of_ble_eq_true rfl) | (simp only [List.length_append, List.length_cons, List.length_nil, List.length_map]; exact small1000 (by omega))))))
  | ((with_reducible apply q_setL); (focus ((repeat first | (with_reducible exact upd_same) | (with_reducible assumption) | (with_reducible apply upd_new (by assumption)) | (with_reducible apply upd_other (by first | assumption | exact Ne.symm (by assumption))) | (with_reducible refine' Kp.get (by assumption) ?_ (by first | assumption | exact Ne.symm (by assumption))) | (with_reducible apply Same.get (by assumption))); done)); (focus (exact rfl)))
  | with_reducible refine q_ifNT ?_
  | with_reducible refine q_ifNF ?_
  | with_reducible refine q_andNT ?_
  | with_reducible refine q_andNF ?_
  | with_reducible refine q_orNT ?_
  | with_reducible refine q_orNF ?_
  | with_reducible refine q_bKNT ?_
  | with_reducible refine q_bKNF ?_
  | with_reducible refine q_tNGet ?_
  | with_reducible refine q_tNIn ?_
  | with_reducible refine q_sNPut ?_
  | with_reducible refine q_sFldAug ?_
  | with_reducible refine q_sDAug ?_
  | with_reducible refine q_sDDel ?_
  | with_reducible refine q_forX ?_
  | with_reducible refine q_tMake ?_
  | ((with_reducible apply q_dG1a); (focus ((repeat first | (with_reducible exact upd_same) | (with_reducible assumption) | (with_reducible apply upd_new (by assumption)) | (with_reducible apply upd_other (by first | assumption | exact Ne.symm (by assumption))) | (with_reducible refine' Kp.get (by assumption) ?_ (by first | assumption | exact Ne.symm (by assumption))) | (with_reducible apply Same.get (by assumption))); done)))))
/-! taking away, which may raise -/
def sp_draw : Sp := fun vs H Q _ => ∃ (a : Addr) (t x : Str) (i : Int) (tb : Tab2) (as : List Addr), vs = [.ref a, .str t, .str x, .int i] ∧ TblAt H a tb as ∧ tb.length < 1000 ∧ (rowOf tb t).length < 1000 ∧
  ¬ heldT tb t x < i ∧ (∀ (H' : Hp) (as' : List Addr), TblAt H' a (putT tb t x (-i)) as' → (∀ b ∈ as', b ∈ as ∨ H b = none) → Kps (a :: as) H H' → Q .non H')
section
variable {P : Program} {w : World} {K : PySem.W.Frag} {mg : Str → Option Value} {base : Heap}
theorem ok_draw (T : Txt K mg) : FnOk P w K mg base CX0 2 T.f_draw T.d_draw ["table", "token", "name", "amount"] sp_draw := by
  refine T.F_draw.ok sc_draw (fun vs H Q E h => ?_) (fun cdv A outer s H vs Q E hr h => ?_)
  · obtain ⟨a, t, x, i, tb, as, rfl, _⟩ := h; rfl
  · obtain ⟨a, t, x, i, tb, as, rfl, hT, hl1, hl2, hlt, kQ⟩ := h
    have hu := hu_of hr
    refine ⟨_, (pss_cons (ps_if (pt_cmpR op_lt (pe_call (ok_held T) (hr.mono (by decide)) (by rfl) T.g_held T.F_held.kp T.b_held .nil pass0 (pa_cons (pv 0) (pa_cons (pv 1) (pa_cons (pv 2) pa_nil)))) (pv 3) (nomark _)) (pss_one ps_never) pss_nil)
      (pss_one (ps_expr (pe_call (ok_put T) (hr.mono (by decide)) (by rfl) T.g_put T.F_put.kp T.b_put .nil pass0 (pa_cons (pv 0) (pa_cons (pv 1) (pa_cons (pv 2) (pa_cons (pe_un un_neg (pv 3)) pa_nil)))))))), ?_⟩
    (dsimp only [cxOf, Cx.nox, Cx.wish, L2.start, List.map, List.length, List.replicate, List.cons_append, List.nil_append, List.append_eq, Nat.reduceSub, Nat.reduceAdd])
    walk_at "my_rd"
    refine ⟨a, t, x, tb, as, rfl, hT, fun H1 sm => ?_⟩
    walk_at "my_rd"
    rw [decide_eq_false hlt]
    walk_at "my_rd"
    refine ⟨a, t, x, -i, tb, as, rfl, hT.same sm, hl1, hl2, fun H' as' hT' hn kp => ?_⟩
    walk_at "my_rd"
    exact kQ H' as' hT' (fun b hb => (hn b hb).imp_right fun q => Same.free sm q) fun b o q n => kp b o (sm _ _ q) n
end

/-! a sheet that becomes another one -/
structure ShTo (C : Addr) (H : Hp) (x : Addr) (S : Sh) (H' : Hp) (S' : Sh) : Prop where
  at_ : ShAt C H' x S'
  cf : S'.cf = S.cf
  side : S'.side = S.side
  ft : ∀ b ∈ S'.foot, b ∈ S.foot ∨ H b = none
  kp : Kps S.foot H H'
theorem ShTo.trans {C x : Addr} {H H1 H2 : Hp} {S S1 S2 : Sh} (h1 : ShTo C H x S H1 S1) (h2 : ShTo C H1 x S1 H2 S2) : ShTo C H x S H2 S2 := by
  refine ⟨h2.at_, h2.cf.trans h1.cf, h2.side.trans h1.side, fun b hb => ?_, fun b o q n => ?_⟩
  · rcases h2.ft b hb with m | m
    · exact h1.ft b m
    · by_cases e : b ∈ S.foot
      · exact .inl e
      · refine .inr ?_
        cases q : H b with
        | none => rfl
        | some o => rw [h1.kp b o q e] at m; cases m
  · refine h2.kp b o (h1.kp b o q n) fun m => ?_
    rcases h1.ft b m with e | e
    · exact n e
    · rw [q] at e; cases e
theorem ShTo.pre {C x : Addr} {H H1 H2 : Hp} {S S2 : Sh} (sm : Same H H1) (h : ShTo C H1 x S H2 S2) : ShTo C H x S H2 S2 :=
  ⟨h.at_, h.cf, h.side, fun b hb => (h.ft b hb).imp_right fun q => Same.free sm q, fun b o q n => h.kp b o (sm _ _ q) n⟩
theorem foot_b {S : Sh} {b : Addr} (h : b ∈ S.ba :: S.bs) : b ∈ S.foot := List.mem_append.mpr (.inl h)
theorem foot_d {S : Sh} {b : Addr} (h : b ∈ S.bo :: S.ds) : b ∈ S.foot := List.mem_append.mpr (.inr (List.mem_append.mpr (.inl h)))
theorem foot_v {S : Sh} : S.va ∈ S.foot := List.mem_append.mpr (.inr (List.mem_append.mpr (.inr (List.mem_singleton.mpr rfl))))
theorem foot_of {S : Sh} {b : Addr} (h : b ∈ S.foot) : b ∈ S.ba :: S.bs ∨ b ∈ S.bo :: S.ds ∨ b = S.va := by
  rcases List.mem_append.mp h with m | m
  · exact .inl m
  · rcases List.mem_append.mp m with m | m
    · exact .inr (.inl m)
    · exact .inr (.inr (List.mem_singleton.mp m))
theorem ShAt.toB {C : Addr} {H H' : Hp} {x : Addr} {S : Sh} {tb : Tab2} {bs : List Addr} (h : ShAt C H x S) (hT : TblAt H' S.ba tb bs) (hn : ∀ b ∈ bs, b ∈ S.bs ∨ H b = none) (k : Kps (S.ba :: S.bs) H H') : ShTo C H x S H' { S with bal := tb, bs := bs } := by
  refine ⟨h.setB hT hn k, rfl, rfl, fun b hb => ?_, fun b o q n => k b o q fun m => n (foot_b m)⟩
  rcases foot_of hb with m | m | m
  · rcases List.mem_cons.mp m with e | e
    · exact .inl (foot_b (e ▸ List.mem_cons_self))
    · exact (hn b e).imp_left fun z => foot_b (List.mem_cons_of_mem _ z)
  · exact .inl (foot_d m)
  · subst m; exact .inl foot_v
theorem ShAt.toD {C : Addr} {H H' : Hp} {x : Addr} {S : Sh} {tb : Tab2} {ds : List Addr} (h : ShAt C H x S) (hT : TblAt H' S.bo tb ds) (hn : ∀ b ∈ ds, b ∈ S.ds ∨ H b = none) (k : Kps (S.bo :: S.ds) H H') : ShTo C H x S H' { S with bon := tb, ds := ds } := by
  refine ⟨h.setD hT hn k, rfl, rfl, fun b hb => ?_, fun b o q n => k b o q fun m => n (foot_d m)⟩
  rcases foot_of hb with m | m | m
  · exact .inl (foot_b m)
  · rcases List.mem_cons.mp m with e | e
    · exact .inl (foot_d (e ▸ List.mem_cons_self))
    · exact (hn b e).imp_left fun z => foot_d (List.mem_cons_of_mem _ z)
  · subst m; exact .inl foot_v
theorem ShAt.toV {C : Addr} {H : Hp} {x : Addr} {S : Sh} {r : Row} (h : ShAt C H x S) : ShTo C H x S (upd H S.va (.dK (rowK r))) { S with vau := r } := by
  obtain ⟨dx, fs, h1, h2⟩ := h.ex
  have nx : x ≠ S.va := ne_of h1 h.v (by intro z; cases z)
  have kv : Kps [S.va] H (upd H S.va (.dK (rowK r))) := fun b o q n => upd_other (fun e => n (List.mem_singleton.mpr e)) q
  refine ⟨⟨⟨dx, fs, upd_other nx h1, h2⟩, h.b.kps kv fun b hb m => h.n2 (List.mem_singleton.mp m ▸ hb), h.d.kps kv fun b hb m => h.n3 (List.mem_singleton.mp m ▸ hb), upd_same, h.n1, h.n2, h.n3⟩, rfl, rfl, fun b hb => .inl hb, fun b o q n => upd_other (fun e => n (e ▸ foot_v)) q⟩
def BigB (n : Nat) (S : Sh) : Prop := TabB n S.bal ∧ TabB n S.bon ∧ S.vau.length ≤ n
def sp_bond (C : Addr) : Sp := fun vs H Q _ => ∃ (x : Addr) (S : Sh) (a t : Str) (i : Int), vs = [.ref x, .str a, .str t, .int i] ∧ ShAt C H x S ∧ TabB 999 S.bal ∧ TabB 999 S.bon ∧
  ¬ heldT S.bal t a < i ∧ (∀ (H' : Hp) (S' : Sh), ShTo C H x S H' S' → S'.bal = putT S.bal t a (-i) → S'.bon = putT S.bon t a i → S'.vau = S.vau → Q .non H')
theorem lt1000 {n : Nat} (h : n ≤ 999) : n < 1000 := Nat.lt_succ_of_le h
section
variable {P : Program} {w : World} {K : PySem.W.Frag} {mg : Str → Option Value} {base : Heap}
theorem ok_Sheet_bond (T : Txt K mg) : FnOk P w K mg base CX0 3 T.f_Sheet_bond T.d_Sheet_bond ["self", "guard", "token", "amount"] (sp_bond T.C_Sheet) := by
  refine T.F_Sheet_bond.ok sc_Sheet_bond (fun vs H Q E h => ?_) (fun cdv A outer s H vs Q E hr h => ?_)
  · obtain ⟨x, S, a, t, i, rfl, _⟩ := h; rfl
  · obtain ⟨x, S, a, t, i, rfl, hS, hB, hD, hlt, kQ⟩ := h
    obtain ⟨dx, fs, h1, h2, h3, h4, h5, h6, h7⟩ := hS.ex
    have hu := hu_of hr
    refine ⟨_, (pss_cons (ps_expr (pe_call (ok_draw T) (hr.mono (by decide)) (by rfl) T.g_draw T.F_draw.kp T.b_draw .nil pass0 (pa_cons (pe_fld (pv 0) rfl) (pa_cons (pv 2) (pa_cons (pv 1) (pa_cons (pv 3) pa_nil))))))
      (pss_one (ps_expr (pe_call (ok_put T) (hr.mono (by decide)) (by rfl) T.g_put T.F_put.kp T.b_put .nil pass0 (pa_cons (pe_fld (pv 0) rfl) (pa_cons (pv 2) (pa_cons (pv 1) (pa_cons (pv 3) pa_nil)))))))), ?_⟩
    (dsimp only [cxOf, Cx.nox, Cx.wish, L2.start, List.map, List.length, List.replicate, List.cons_append, List.nil_append, List.append_eq, Nat.reduceSub, Nat.reduceAdd])
    walk_at "my_rd"
    refine q_fldK h1 T.cl_Sheet T.n_Sheet_balances h4 ?_
    walk_at "my_rd"
    refine ⟨_, t, a, i, S.bal, S.bs, rfl, hS.b, lt1000 hB.len, lt1000 (hB.row t), hlt, fun H1 bs hT hn kp => ?_⟩
    have st := hS.toB hT hn kp
    have hS1 := st.at_
    obtain ⟨dx1, fs1, g1, g2, g3, g4, g5, g6, g7⟩ := hS1.ex
    walk_at "my_rd"
    refine q_fldK g1 T.cl_Sheet T.n_Sheet_bonds g5 ?_
    walk_at "my_rd"
    refine ⟨_, t, a, i, S.bon, S.ds, rfl, hS1.d, lt1000 hD.len, lt1000 (hD.row t), fun H2 ds2 hT2 hn2 kp2 => ?_⟩
    walk_at "my_rd"
    exact kQ H2 _ (st.trans (hS1.toD hT2 hn2 kp2)) rfl rfl rfl
end

local macro_rules | `(tactic| walk_at "my_rd") => `(tactic| (repeat first
  | with_reducible refine q_tCons ?_
  | ((with_reducible apply q_var); (focus (exact rfl)))
  | with_reducible refine q_c ?_
  | ((with_reducible apply q_nxE); (focus (with_reducible exact rfl)))
  | with_reducible refine q_bK ?_
  | with_reducible refine q_call ?_
  | with_reducible refine q_callK ?_
  | with_reducible refine q_tNil ?_
  | with_reducible refine q_cb ?_
  | with_reducible refine q_seq ?_
  | with_reducible refine q_asg ?_
  | with_reducible refine q_gName ?_
  | with_reducible refine q_op ?_
  | with_reducible refine q_test ?_
  | with_reducible refine q_tB ?_
  | with_reducible refine q_ifS ?_
  | with_reducible refine q_ret ?_
  | ((with_reducible apply q_rtE); (focus (with_reducible exact rfl)))
  | with_reducible refine q_next ?_
  | with_reducible refine q_ifF ?_
  | with_reducible refine q_ifT ?_
  | with_reducible refine q_drop ?_
  | with_reducible refine q_and ?_
  | with_reducible refine q_or ?_
  | with_reducible refine q_andT ?_
  | with_reducible refine q_andF ?_
  | with_reducible refine q_orF ?_
  | with_reducible refine q_orT ?_
  | with_reducible refine q_andV ?_
  | with_reducible refine q_andVT ?_
  | with_reducible refine q_andVF ?_
  | with_reducible refine q_orV ?_
  | with_reducible refine q_gCons ?_
  | with_reducible refine q_gNil ?_
  | with_reducible refine q_tup ?_
  | with_reducible refine q_lst ?_
  | with_reducible refine q_not ?_
  | with_reducible refine q_notKT ?_
  | with_reducible refine q_notKF ?_
  | with_reducible refine q_I0 ?_
  | with_reducible refine q_eqI ?_
  | with_reducible refine q_neI ?_
  | ((with_reducible refine q_I ?_ ?_); first | decide | omega | exact ⟨by omega, by omega⟩ | exact ⟨by decide, by decide⟩ | exact .inl ⟨by omega, by omega⟩ | exact .inr ⟨by omega, by omega⟩ | exact .inr ⟨by decide, by decide⟩)
  | with_reducible refine q_eqS ?_
  | with_reducible refine q_neS ?_
  | with_reducible refine q_brk ?_
  | with_reducible refine q_ct ?_
  | ((with_reducible apply q_bkE); (focus (with_reducible exact rfl)))
  | ((with_reducible apply q_cnE); (focus (with_reducible exact rfl)))
  | with_reducible refine q_retN ?_
  | with_reducible refine q_gSub ?_
  | with_reducible refine q_for ?_
  | with_reducible refine q_iList ?_
  | with_reducible refine q_iTup ?_
  | with_reducible refine q_iRng1 ?_
  | with_reducible refine q_notK ?_
  | with_reducible refine q_orVT ?_
  | with_reducible refine q_orVF ?_
  | with_reducible refine q_notV ?_
  | with_reducible refine q_notVK ?_
  | with_reducible refine q_ifE ?_
  | with_reducible refine q_ifET ?_
  | with_reducible refine q_ifEF ?_
  | with_reducible refine q_yes ?_
  | with_reducible refine q_un ?_
  | with_reducible refine q_rU ?_
  | with_reducible refine q_abs ?_
  | with_reducible refine q_int1 ?_
  | with_reducible refine q_bm ?_
  | with_reducible refine q_bm0 ?_
  | with_reducible refine q_lc ?_
  | with_reducible refine q_keepT ?_
  | with_reducible refine q_keepF ?_
  | ((with_reducible apply q_aug); (focus (exact rfl)))
  | with_reducible refine q_ipI ?_
  | with_reducible refine q_chain ?_
  | with_reducible refine q_pairC ?_
  | with_reducible refine q_pairsK ?_
  | with_reducible refine q_pairN ?_
  | with_reducible refine q_fld ?_
  | with_reducible refine q_sFld ?_
  | with_reducible refine q_meth ?_
  | with_reducible refine q_makeK ?_
  | with_reducible refine q_isBl ?_
  | with_reducible refine q_notBl ?_
  | with_reducible refine q_sl ?_
  | with_reducible refine q_noPart ?_
  | with_reducible refine q_part ?_
  | with_reducible refine q_partK ?_
  | ((with_reducible apply q_mulStr); (focus (decide +kernel)))
  | with_reducible refine q_chT ?_
  | with_reducible refine q_chF ?_
  | with_reducible refine q_ord ?_
  | with_reducible refine q_iStr0 ?_
  | with_reducible refine q_iStr ?_
  | with_reducible refine q_tDIn ?_
  | with_reducible refine q_tDNotIn ?_
  | with_reducible refine q_tDGet ?_
  | with_reducible refine q_tDGet2 ?_
  | with_reducible refine q_tDGet1 ?_
  | with_reducible refine q_tDSetd ?_
  | ((with_reducible apply q_dG2a); (focus ((repeat first | (with_reducible exact upd_same) | (with_reducible assumption) | (with_reducible apply upd_new (by assumption)) | (with_reducible apply upd_other (by first | assumption | exact Ne.symm (by assumption))) | (with_reducible refine' Kp.get (by assumption) ?_ (by first | assumption | exact Ne.symm (by assumption))) | (with_reducible apply Same.get (by assumption))); done)))
  | ((with_reducible apply q_dSda); (focus ((repeat first | (with_reducible exact upd_same) | (with_reducible assumption) | (with_reducible apply upd_new (by assumption)) | (with_reducible apply upd_other (by first | assumption | exact Ne.symm (by assumption))) | (with_reducible refine' Kp.get (by assumption) ?_ (by first | assumption | exact Ne.symm (by assumption))) | (with_reducible apply Same.get (by assumption))); done)))
  | with_reducible refine q_sDPut ?_
  | ((with_reducible apply q_dInS); (focus ((repeat first | (with_reducible exact upd_same) | (with_reducible assumption) | (with_reducible apply upd_new (by assumption)) | (with_reducible apply upd_other (by first | assumption | exact Ne.symm (by assumption))) | (with_reducible refine' Kp.get (by assumption) ?_ (by first | assumption | exact Ne.symm (by assumption))) | (with_reducible apply Same.get (by assumption))); done)))
  | ((with_reducible apply q_dNInS); (focus ((repeat first | (with_reducible exact upd_same) | (with_reducible assumption) | (with_reducible apply upd_new (by assumption)) | (with_reducible apply upd_other (by first | assumption | exact Ne.symm (by assumption))) | (with_reducible refine' Kp.get (by assumption) ?_ (by first | assumption | exact Ne.symm (by assumption))) | (with_reducible apply Same.get (by assumption))); done)))
  | ((with_reducible apply q_dInI); (focus ((repeat first | (with_reducible exact upd_same) | (with_reducible assumption) | (with_reducible apply upd_new (by assumption)) | (with_reducible apply upd_other (by first | assumption | exact Ne.symm (by assumption))) | (with_reducible refine' Kp.get (by assumption) ?_ (by first | assumption | exact Ne.symm (by assumption))) | (with_reducible apply Same.get (by assumption))); done)))
  | ((with_reducible apply q_dNInI); (focus ((repeat first | (with_reducible exact upd_same) | (with_reducible assumption) | (with_reducible apply upd_new (by assumption)) | (with_reducible apply upd_other (by first | assumption | exact Ne.symm (by assumption))) | (with_reducible refine' Kp.get (by assumption) ?_ (by first | assumption | exact Ne.symm (by assumption))) | (with_reducible apply Same.get (by assumption))); done)))
  | ((with_reducible apply q_bmL); (focus ((repeat first | (with_reducible exact upd_same) | (with_reducible assumption) | (with_reducible apply upd_new (by assumption)) | (with_reducible apply upd_other (by first | assumption | exact Ne.symm (by assumption))) | (with_reducible refine' Kp.get (by assumption) ?_ (by first | assumption | exact Ne.symm (by assumption))) | (with_reducible apply Same.get (by assumption))); done)))
  | ((with_reducible apply q_bmL0); (focus ((repeat first | (with_reducible exact upd_same) | (with_reducible assumption) | (with_reducible apply upd_new (by assumption)) | (with_reducible apply upd_other (by first | assumption | exact Ne.symm (by assumption))) | (with_reducible refine' Kp.get (by assumption) ?_ (by first | assumption | exact Ne.symm (by assumption))) | (with_reducible apply Same.get (by assumption))); done)))
  | ((with_reducible apply q_ixLt); (focus ((repeat first | (with_reducible exact upd_same) | (with_reducible assumption) | (with_reducible apply upd_new (by assumption)) | (with_reducible apply upd_other (by first | assumption | exact Ne.symm (by assumption))) | (with_reducible refine' Kp.get (by assumption) ?_ (by first | assumption | exact Ne.symm (by assumption))) | (with_reducible apply Same.get (by assumption))); done)); (focus (exact rfl)))
  | ((with_reducible apply q_ixTt); (focus ((repeat first | (with_reducible exact upd_same) | (with_reducible assumption) | (with_reducible apply upd_new (by assumption)) | (with_reducible apply upd_other (by first | assumption | exact Ne.symm (by assumption))) | (with_reducible refine' Kp.get (by assumption) ?_ (by first | assumption | exact Ne.symm (by assumption))) | (with_reducible apply Same.get (by assumption))); done)); (focus (exact rfl)))
  | ((with_reducible apply q_lenLt); (focus ((repeat first | (with_reducible exact upd_same) | (with_reducible assumption) | (with_reducible apply upd_new (by assumption)) | (with_reducible apply upd_other (by first | assumption | exact Ne.symm (by assumption))) | (with_reducible refine' Kp.get (by assumption) ?_ (by first | assumption | exact Ne.symm (by assumption))) | (with_reducible apply Same.get (by assumption))); done)))
  | ((with_reducible apply q_lenTt); (focus ((repeat first | (with_reducible exact upd_same) | (with_reducible assumption) | (with_reducible apply upd_new (by assumption)) | (with_reducible apply upd_other (by first | assumption | exact Ne.symm (by assumption))) | (with_reducible refine' Kp.get (by assumption) ?_ (by first | assumption | exact Ne.symm (by assumption))) | (with_reducible apply Same.get (by assumption))); done)))
  | ((with_reducible apply q_append); (focus ((repeat first | (with_reducible exact upd_same) | (with_reducible assumption) | (with_reducible apply upd_new (by assumption)) | (with_reducible apply upd_other (by first | assumption | exact Ne.symm (by assumption))) | (with_reducible refine' Kp.get (by assumption) ?_ (by first | assumption | exact Ne.symm (by assumption))) | (with_reducible apply Same.get (by assumption))); done)); (focus ((first | (exact Nat.lt_of_ble_eq_true rfl) | (simp only [List.length_append, List.length_cons, List.length_nil, List.length_map]; exact small1000 (by omega))))))
  | ((with_reducible apply q_setL); (focus ((repeat first | (with_reducible exact upd_same) | (with_reducible assumption) | (with_reducible apply upd_new (by assumption)) | (with_reducible apply upd_other (by first | assumption | exact Ne.symm (by assumption))) | (with_reducible refine' Kp.get (by assumption) ?_ (by first | assumption | exact Ne.symm (by assumption))) | (with_reducible apply Same.get (by assumption))); done)); (focus (exact rfl)))
  | with_reducible refine q_ifNT ?_
  | with_reducible refine q_ifNF ?_
  | with_reducible refine q_andNT ?_
  | with_reducible refine q_andNF ?_
  | with_reducible refine q_orNT ?_
  | with_reducible refine q_orNF ?_
  | with_reducible refine q_bKNT ?_
  | with_reducible refine q_bKNF ?_
  | with_reducible refine q_tNGet ?_
  | with_reducible refine q_tNIn ?_
  | with_reducible refine q_sNPut ?_
  | with_reducible refine q_sFldAug ?_
  | with_reducible refine q_sDAug ?_
  | with_reducible refine q_sDDel ?_
  | with_reducible refine q_forX ?_
  | with_reducible refine q_tMake ?_
  | ((with_reducible apply q_dG1a); (focus ((repeat first | (with_reducible exact upd_same) | (with_reducible assumption) | (with_reducible apply upd_new (by assumption)) | (with_reducible apply upd_other (by first | assumption | exact Ne.symm (by assumption))) | (with_reducible refine' Kp.get (by assumption) ?_ (by first | assumption | exact Ne.symm (by assumption))) | (with_reducible apply Same.get (by assumption))); done)))))
/-! copies -/
theorem dc_it {J : It} {n : Nat} {G : Hp → Prop} {Y : Nat → Hp → V → Hp → Prop} (w : Walk J n G Y) {g : TG} {tt : TT} {tk tv : TE} {vs : List Nat} {σ : L2.St} {H1 : Hp} {D : Addr} {Qd : Hp → Prop} (Pv : Nat → Hp → Prop) (h0 : Pv 0 (upd H1 D (.dK []))) (hG : ∀ i H, i ≤ n → Pv i H → G H)
    (hs : ∀ i x H H', i < n → Pv i H → Y i H x H' → g x (wipe σ vs) H' fun σ2 H2 => wipe σ2 vs = wipe σ vs ∧ tt σ2 H2 fun b H3 =>
      if b = true then tk σ2 H3 fun y H4 => tv σ2 H4 fun z H5 => ∃ kvs k, y = kV k ∧ H5 D = some (.dK kvs) ∧ kvs.length < sizeLine ∧ Pv (i + 1) (upd H5 D (.dK (putK kvs k z))) else Pv (i + 1) H3) (hd : ∀ H, Pv n H → Qd H) :
    ∃ W : Nat → Nat → Hp → Prop, (∃ m, W 0 m (upd H1 D (.dK []))) ∧ ∀ i m H, W i m H →
      (J.stop i H ∧ Qd H) ∨ (J.go i H ∧ ∃ Nx : Hp → Prop, (∀ H', Nx H' → ∃ m', m' < m ∧ W (i + 1) m' H') ∧ ∀ x H', J.yld i H x H' → g x (wipe σ vs) H' fun σ2 H2 => wipe σ2 vs = wipe σ vs ∧ tt σ2 H2 fun b H3 =>
        if b = true then tk σ2 H3 fun y H4 => tv σ2 H4 fun z H5 => ∃ kvs k, y = kV k ∧ H5 D = some (.dK kvs) ∧ kvs.length < sizeLine ∧ Nx (upd H5 D (.dK (putK kvs k z))) else Nx H3) := by
  refine ⟨fun i m H => m = n - i ∧ i ≤ n ∧ Pv i H, ⟨n, by simp, Nat.zero_le _, h0⟩, ?_⟩
  rintro i m H ⟨rfl, hi, p⟩
  have q := hG i H hi p
  by_cases hlt : i < n
  · refine .inr ⟨w.goes i H hlt q, Pv (i + 1), fun H' p' => ⟨n - (i + 1), by omega, rfl, hlt, p'⟩, fun x H' y => hs i x H H' hlt p (w.yields i H x H' hlt q y)⟩
  · have e : i = n := by omega
    subst e
    exact .inl ⟨w.stops H q, hd H p⟩
theorem TRows.item {H : Hp} {tb : Tab2} {as : List Addr} {kvs : List (Key × V)} (h : TRows H tb as kvs) : ∀ {i : Nat} {k : Key} {v : V}, kvs[i]? = some (k, v) → ∃ t r b, tb[i]? = some (t, r) ∧ k = Sum.inr t ∧ v = .ref b ∧ b ∈ as ∧ H b = some (.dK (rowK r)) := by
  induction h with
  | nil => intro i k v q; simp at q
  | @cons t r a tb as kvs h1 h2 h3 ih =>
    intro i k v q
    cases i with
    | zero =>
      have e : (Sum.inr t, V.ref a) = (k, v) := Option.some.inj q
      injection e with e1 e2
      exact ⟨t, r, a, rfl, e1.symm, e2.symm, List.mem_cons_self, h1⟩
    | succ i =>
      obtain ⟨t', r', b, q1, q2, q3, q4, q5⟩ := ih (i := i) q
      exact ⟨t', r', b, q1, q2, q3, List.mem_cons_of_mem _ q4, q5⟩
theorem tabAt_none {tb : Tab2} {t : Str} (h : t ∉ tb.map (·.1)) : tabAt tb t = none := by
  induction tb with
  | nil => rfl
  | cons p tb ih =>
    obtain ⟨t', r'⟩ := p
    rw [List.map_cons, List.mem_cons, not_or] at h
    rw [tabAt_cons, if_neg (fun e => h.1 e.symm), ih h.2]
theorem tabAt_at {tb : Tab2} (hn : (tb.map (·.1)).Nodup) : ∀ {i : Nat} {t : Str} {r : Row}, tb[i]? = some (t, r) → tabAt tb t = some r := by
  induction tb with
  | nil => intro i t r h; simp at h
  | cons p tb ih =>
    obtain ⟨t', r'⟩ := p
    intro i t r h
    rw [List.map_cons, List.nodup_cons] at hn
    rw [tabAt_cons]
    cases i with
    | zero =>
      have e : (t', r') = (t, r) := Option.some.inj h
      injection e with e1 e2
      rw [if_pos e1, e2]
    | succ i =>
      have h' : tb[i]? = some (t, r) := h
      rw [if_neg (fun e : t' = t => hn.1 (by rw [e]; exact List.mem_map.mpr ⟨_, List.mem_of_getElem? h', rfl⟩)), ih hn.2 h']
theorem setRow_new {tb : Tab2} {t : Str} (h : tabAt tb t = none) (r : Row) : setRow tb t r = tb ++ [(t, r)] := by
  induction tb with
  | nil => rfl
  | cons p tb ih =>
    obtain ⟨t', r'⟩ := p
    rw [tabAt_cons] at h
    show (if t' = t then _ else _ : Tab2) = _
    by_cases e : t' = t
    · rw [if_pos e] at h; cases h
    · rw [if_neg e] at h
      rw [if_neg e, ih h]
      rfl
def sp_copied : Sp := fun vs H Q _ => ∃ (a : Addr) (tb : Tab2) (as : List Addr), vs = [.ref a] ∧ TblAt H a tb as ∧ tb.length ≤ 999 ∧ (tb.map (·.1)).Nodup ∧
  ∀ (d : Addr) (ds : List Addr) (H' : Hp), H d = none → TblAt H' d tb ds → (∀ b ∈ ds, H b = none) → Same H H' → Q (.ref d) H'
section
variable {P : Program} {w : World} {K : PySem.W.Frag} {mg : Str → Option Value} {base : Heap}
theorem ok_copied (T : Txt K mg) : FnOk P w K mg base CX0 1 T.f_copied T.d_copied ["table"] sp_copied := by
  refine T.F_copied.ok sc_copied (fun vs H Q E h => ?_) (fun cdv A outer s H vs Q E hr h => ?_)
  · obtain ⟨a, tb, as, rfl, _⟩ := h; rfl
  · obtain ⟨a, tb, as, rfl, hT, hl, hnd, k⟩ := h
    obtain ⟨kvs, ha, hR⟩ := hT.ex
    have hu := hu_of hr
    refine ⟨_, (pss_one (ps_ret (pe_lock (pe_dc (own := [("token", 1)]) (g := (gName 1)) (tt := tYes) rfl sc_copied.nd (pi_keys (pv 0)) (blkOk_by (own := [("token", 1)]) (N := ["table", "token"]) (sc := defScope s_copied) (by decide +kernel)) (fun _ _ _ _ _ => (pg_name (i := 1) sc_copied.nd rfl (Or.inl rfl))) (fun _ _ _ _ _ => pts_nil) (fun _ _ _ _ _ => (pv 1)) (fun _ _ _ _ _ => (pe_callTy call_dictD (by rfl) T.z_dict boot_dict (pa_cons (pe_dget hu (pv 0) (pv 1) (fun _ _ => rfl)) pa_nil))))))), ?_⟩
    (dsimp only [cxOf, Cx.nox, Cx.wish, L2.start, List.map, List.length, List.replicate, List.cons_append, List.nil_append, List.append_eq, Nat.reduceSub, Nat.reduceAdd])
    walk_at "my_rd"
    refine ⟨a, _, ha, trivial, fun od => ?_⟩
    have nda : ∀ {D : Addr}, upd H a (.frz od (.dK kvs)) D = none → D ≠ a ∧ H D = none := fun q => ⟨upd_none_ne q, upd_none_back q⟩
    have haf : ∀ b ∈ as, b ≠ a := fun b hb e => hT.out (e ▸ hb)
    unfold tDc iKeys
    refine q_var (v := .ref a) rfl ⟨a, od, rfl, .inl ⟨kvs, upd_same, fun D nD => ?_⟩⟩
    have hF : upd H a (.frz od (.dK kvs)) a = some (.frz od (.dK kvs)) := upd_same
    obtain ⟨nDa, hD0⟩ := nda nD
    generalize hHF : upd H a (.frz od (.dK kvs)) = HF at nD hF
    have keep : ∀ b o, H b = some o → b ≠ a → HF b = some o := fun b o q n => by rw [← hHF]; exact upd_other n q
    have none_ : ∀ b, HF b = none → H b = none := fun b q => by rw [← hHF] at q; exact upd_none_back q
    refine dc_it walk_keys (fun i H2 => ∃ (ds : List Addr) (kv2 : List (Key × V)), H2 D = some (.dK kv2) ∧ TRows H2 (tb.take i) ds kv2 ∧ (∀ b ∈ ds, HF b = none ∧ b ≠ D) ∧ Same HF H2)
      ⟨[], [], upd_same, .nil, by simp, Same.new (Same.refl _) nD⟩ (fun i H2 _ ⟨_, _, _, _, _, sm⟩ => sm _ _ hF) ?_ ?_
    · rintro i v H2 H3 hi ⟨ds, kv2, hD, hR2, hn, sm⟩ ⟨rfl, k2, v2, hkv, rfl⟩
      obtain ⟨t, r, b, htb, rfl, rfl, hb, hrb⟩ := hR.item hkv
      have hil : i < tb.length := (List.getElem?_eq_some_iff.mp htb).1
      have hnew : t ∉ (tb.take i).map (·.1) := by
        intro hm
        have h3 : ((tb.take (i + 1)).map (·.1)).Nodup := (List.Sublist.map _ (List.take_sublist _ _)).nodup hnd
        rw [take_snoc htb, List.map_append] at h3
        exact (List.nodup_append.mp h3).2.2 t hm t (by simp) rfl
      have htn := tabAt_none hnew
      obtain ⟨b', hvb, hb', hrb'⟩ : ∃ b', valV kvs (Sum.inr t) = some (.ref b') ∧ b' ∈ as ∧ H b' = some (.dK (rowK r)) := by
        rcases hR.val t with ⟨q, _⟩ | ⟨r', b', q1, q2, q3, q4⟩
        · rw [tabAt_at hnd htb] at q; cases q
        · rw [tabAt_at hnd htb] at q1
          cases q1
          exact ⟨b', q2, q3, q4⟩
      have hv2 : valV kv2 (Sum.inr t) = none := by
        rcases hR2.val t with ⟨_, q⟩ | ⟨_, _, q, _⟩
        · exact q
        · rw [htn] at q; cases q
      have hb3 : H3 b' = some (.dK (rowK r)) := sm _ _ (keep _ _ hrb' (haf _ hb'))
      refine q_gName ⟨rfl, ?_⟩
      refine q_yes ?_
      refine iteT ?_
      walk_at "my_rd"
      refine ⟨a, .ref b', rfl, .inl ⟨kvs, .inr t, .inr ⟨od, sm _ _ hF⟩, rfl, hvb.symm⟩, ?_⟩
      walk_at "my_rd"
      refine ⟨b', rowK r, rfl, .inl hb3, fun p np => ?_⟩
      have npD : p ≠ D := (ne_of_none hD np).symm
      refine ⟨kv2, .inr t, rfl, upd_new np hD, by rw [hR2.len, List.length_take]; exact small1000 (by omega), ds ++ [p], kv2 ++ [(.inr t, .ref p)], ?_, ?_, ?_, ?_⟩
      · rw [putK_new _ hv2]; exact upd_same
      · rw [take_snoc htb, ← setRow_new htn]
        refine TRows.snoc (hR2.mono fun c hc o q => upd_other (hn c hc).2 (upd_new np q)) hv2 (upd_other npD upd_same) fun m => ?_
        obtain ⟨_, q⟩ := hR2.mem m
        rw [np] at q; cases q
      · intro b hb
        rcases List.mem_append.mp hb with m | m
        · exact hn b m
        · rw [List.mem_singleton.mp m]
          exact ⟨Same.free sm np, npD⟩
      · intro b o q
        exact upd_other (ne_of_none q nD) (upd_new np (sm _ _ q))
    · rintro H2 ⟨ds, kv2, hD, hR2, hn, sm⟩
      rw [hR.len, List.take_length] at hR2
      have ha2 : H2 a = some (.frz od (.dK kvs)) := sm _ _ hF
      refine ⟨ha2, ?_⟩
      have sm2 : Same H (upd H2 a (.dK kvs)) := by
        intro b o q
        by_cases e : b = a
        · subst e
          rw [ha] at q
          cases q
          exact upd_same
        · exact upd_other e (sm _ _ (keep b o q e))
      exact k D ds _ hD0 ⟨⟨kv2, upd_other nDa hD, hR2.mono fun b hb o q => upd_other (fun e => by
        have := (hn b hb).1
        rw [e, hF] at this; cases this) q⟩, fun m => (hn D m).2 rfl⟩ (fun b hb => none_ b (hn b hb).1) sm2
end

local macro_rules | `(tactic| walk_at "my_rd") => `(tactic| (repeat first
  | with_reducible refine q_tCons ?_
  | ((with_reducible apply q_var); (focus (exact rfl)))
  | with_reducible refine q_c ?_
  | ((with_reducible apply q_nxE); (focus (with_reducible exact rfl)))
  | with_reducible refine q_bK ?_
  | with_reducible refine q_call ?_
  | with_reducible refine q_callK ?_
  | with_reducible refine q_tNil ?_
  | with_reducible refine q_cb ?_
  | with_reducible refine q_seq ?_
  | with_reducible refine q_asg ?_
  | with_reducible refine q_gName ?_
  | with_reducible refine q_op ?_
  | with_reducible refine q_test ?_
  | with_reducible refine q_tB ?_
  | with_reducible refine q_ifS ?_
  | with_reducible refine q_ret ?_
  | ((with_reducible apply q_rtE); (focus (with_reducible exact rfl)))
  | with_reducible refine q_next ?_
  | with_reducible refine q_ifF ?_
  | with_reducible refine q_ifT ?_
  | with_reducible refine q_drop ?_
  | with_reducible refine q_and ?_
  | with_reducible refine q_or ?_
  | with_reducible refine q_andT ?_
  | with_reducible refine q_andF ?_
  | with_reducible refine q_orF ?_
  | with_reducible refine q_orT ?_
  | with_reducible refine q_andV ?_
  | with_reducible refine q_andVT ?_
  | with_reducible refine q_andVF ?_
  | with_reducible refine q_orV ?_
  | with_reducible refine q_gCons ?_
  | with_reducible refine q_gNil ?_
  | with_reducible refine q_tup ?_
  | with_reducible refine q_lst ?_
  | with_reducible refine q_not ?_
  | with_reducible refine q_notKT ?_
  | with_reducible refine q_notKF ?_
  | with_reducible refine q_I0 ?_
  | with_reducible refine q_eqI ?_
  | with_reducible refine q_neI ?_
  | ((with_reducible refine q_I ?_ ?_); first | decide | omega | exact ⟨by omega, by omega⟩ | exact ⟨by decide, by decide⟩ | exact .inl ⟨by omega, by omega⟩ | exact .inr ⟨by omega, by omega⟩ | exact .inr ⟨by decide, by decide⟩)
  | with_reducible refine q_eqS ?_
  | with_reducible refine q_neS ?_
  | with_reducible refine q_brk ?_
  | with_reducible refine q_ct ?_
  | ((with_reducible apply q_bkE); (focus (with_reducible exact rfl)))
  | ((with_reducible apply q_cnE); (focus (with_reducible exact rfl)))
  | with_reducible refine q_retN ?_
  | with_reducible refine q_gSub ?_
  | with_reducible refine q_for ?_
  | with_reducible refine q_iList ?_
  | with_reducible refine q_iTup ?_
  | with_reducible refine q_iRng1 ?_
  | with_reducible refine q_notK ?_
  | with_reducible refine q_orVT ?_
  | with_reducible refine q_orVF ?_
  | with_reducible refine q_notV ?_
  | with_reducible refine q_notVK ?_
  | with_reducible refine q_ifE ?_
  | with_reducible refine q_ifET ?_
  | with_reducible refine q_ifEF ?_
  | with_reducible refine q_yes ?_
  | with_reducible refine q_un ?_
  | with_reducible refine q_rU ?_
  | with_reducible refine q_abs ?_
  | with_reducible refine q_int1 ?_
  | with_reducible refine q_bm ?_
  | with_reducible refine q_bm0 ?_
  | with_reducible refine q_lc ?_
  | with_reducible refine q_keepT ?_
  | with_reducible refine q_keepF ?_
  | ((with_reducible apply q_aug); (focus (exact rfl)))
  | with_reducible refine q_ipI ?_
  | with_reducible refine q_chain ?_
  | with_reducible refine q_pairC ?_
  | with_reducible refine q_pairsK ?_
  | with_reducible refine q_pairN ?_
  | with_reducible refine q_fld ?_
  | with_reducible refine q_sFld ?_
  | with_reducible refine q_meth ?_
  | with_reducible refine q_makeK ?_
  | with_reducible refine q_isBl ?_
  | with_reducible refine q_notBl ?_
  | with_reducible refine q_sl ?_
  | with_reducible refine q_noPart ?_
  | with_reducible refine q_part ?_
  | with_reducible refine q_partK ?_
  | ((with_reducible apply q_mulStr); (focus (decide +kernel)))
  | with_reducible refine q_chT ?_
  | with_reducible refine q_chF ?_
  | with_reducible refine q_ord ?_
  | with_reducible refine q_iStr0 ?_
  | with_reducible refine q_iStr ?_
  | with_reducible refine q_tDIn ?_
  | with_reducible refine q_tDNotIn ?_
  | with_reducible refine q_tDGet ?_
  | with_reducible refine q_tDGet2 ?_
  | with_reducible refine q_tDGet1 ?_
  | with_reducible refine q_tDSetd ?_
  | ((with_reducible apply q_dG2a); (focus ((repeat first | (with_reducible exact upd_same) | (with_reducible assumption) | (with_reducible apply upd_new (by assumption)) | (with_reducible apply upd_other (by first | assumption | exact Ne.symm (by assumption))) | (with_reducible refine' Kp.get (by assumption) ?_ (by first | assumption | exact Ne.symm (by assumption))) | (with_reducible apply Same.get (by assumption))); done)))
  | ((with_reducible apply q_dSda); (focus ((repeat first | (with_reducible exact upd_same) | (with_reducible assumption) | (with_reducible apply upd_new (by assumption)) | (with_reducible apply upd_other (by first | assumption | exact Ne.symm (by assumption))) | (with_reducible refine' Kp.get (by assumption) ?_ (by first | assumption | exact Ne.symm (by assumption))) | (with_reducible apply Same.get (by assumption))); done)))
  | with_reducible refine q_sDPut ?_
  | ((with_reducible apply q_dInS); (focus ((repeat first | (with_reducible exact upd_same) | (with_reducible assumption) | (with_reducible apply upd_new (by assumption)) | (with_reducible apply upd_other (by first | assumption | exact Ne.symm (by assumption))) | (with_reducible refine' Kp.get (by assumption) ?_ (by first | assumption | exact Ne.symm (by assumption))) | (with_reducible apply Same.get (by assumption))); done)))
  | ((with_reducible apply q_dNInS); (focus ((repeat first | (with_reducible exact upd_same) | (with_reducible assumption) | (with_reducible apply upd_new (by assumption)) | (with_reducible apply upd_other (by first | assumption | exact Ne.symm (by assumption))) | (with_reducible refine' Kp.get (by assumption) ?_ (by first | assumption | exact Ne.symm (by assumption))) | (with_reducible apply Same.get (by assumption))); done)))
  | ((with_reducible apply q_dInI); (focus ((repeat first | (with_reducible exact upd_same) | (with_reducible assumption) | (with_reducible apply upd_new (by assumption)) | (with_reducible apply upd_other (by first | assumption | exact Ne.symm (by assumption))) | (with_reducible refine' Kp.get (by assumption) ?_ (by first | assumption | exact Ne.symm (by assumption))) | (with_reducible apply Same.get (by assumption))); done)))
  | ((with_reducible apply q_dNInI); (focus ((repeat first | (with_reducible exact upd_same) | (with_reducible assumption) | (with_reducible apply upd_new (by assumption)) | (with_reducible apply upd_other (by first | assumption | exact Ne.symm (by assumption))) | (with_reducible refine' Kp.get (by assumption) ?_ (by first | assumption | exact Ne.symm (by assumption))) | (with_reducible apply Same.get (by assumption))); done)))
  | ((with_reducible apply q_bmL); (focus ((repeat first | (with_reducible exact upd_same) | (with_reducible assumption) | (with_reducible apply upd_new (by assumption)) | (with_reducible apply upd_other (by first | assumption | exact Ne.symm (by assumption))) | (with_reducible refine' Kp.get (by assumption) ?_ (by first | assumption | exact Ne.symm (by assumption))) | (with_reducible apply Same.get (by assumption))); done)))
  | ((with_reducible apply q_bmL0); (focus ((repeat first | (with_reducible exact upd_same) | (with_reducible assumption) | (with_reducible apply upd_new (by assumption)) | (with_reducible apply upd_other (by first | assumption | exact Ne.symm (by assumption))) | (with_reducible refine' Kp.get (by assumption) ?_ (by first | assumption | exact Ne.symm (by assumption))) | (with_reducible apply Same.get (by assumption))); done)))
  | ((with_reducible apply q_ixLt); (focus ((repeat first | (with_reducible exact upd_same) | (with_reducible assumption) | (with_reducible apply upd_new (by assumption)) | (with_reducible apply upd_other (by first | assumption | exact Ne.symm (by assumption))) | (with_reducible refine' Kp.get (by assumption) ?_ (by first | assumption | exact Ne.symm (by assumption))) | (with_reducible apply Same.get (by assumption))); done)); (focus (exact rfl)))
  | ((with_reducible apply q_ixTt); (focus ((repeat first | (with_reducible exact upd_same) | (with_reducible assumption) | (with_reducible apply upd_new (by assumption)) | (with_reducible apply upd_other (by first | assumption | exact Ne.symm (by assumption))) | (with_reducible refine' Kp.get (by assumption) ?_ (by first | assumption | exact Ne.symm (by assumption))) | (with_reducible apply Same.get (by assumption))); done)); (focus (exact rfl)))
  | ((with_reducible apply q_lenLt); (focus ((repeat first | (with_reducible exact upd_same) | (with_reducible assumption) | (with_reducible apply upd_new (by assumption)) | (with_reducible apply upd_other (by first | assumption | exact Ne.symm (by assumption))) | (with_reducible refine' Kp.get (by assumption) ?_ (by first | assumption | exact Ne.symm (by assumption))) | (with_reducible apply Same.get (by assumption))); done)))
  | ((with_reducible apply q_lenTt); (focus ((repeat first | (with_reducible exact upd_same) | (with_reducible assumption) | (with_reducible apply upd_new (by assumption)) | (with_reducible apply upd_other (by first | assumption | exact Ne.symm (by assumption))) | (with_reducible refine' Kp.get (by assumption) ?_ (by first | assumption | exact Ne.symm (by assumption))) | (with_reducible apply Same.get (by assumption))); done)))
  | ((with_reducible apply q_append); (focus ((repeat first | (with_reducible exact upd_same) | (with_reducible assumption) | (with_reducible apply upd_new (by assumption)) | (with_reducible apply upd_other (by first | assumption | exact Ne.symm (by assumption))) | (with_reducible refine' Kp.get (by assumption) ?_ (by first | assumption | exact Ne.symm (by assumption))) | (with_reducible apply Same.get (by assumption))); done)); (focus ((first | (exact Nat.lt_of_ble_eq_true rfl) | (simp only [List.length_append, List.length_cons, List.length_nil, List.length_map]; exact small1000 (by omega))))))
  | ((with_reducible apply q_setL); (focus ((repeat first | (with_reducible exact upd_same) | (with_reducible assumption) | (with_reducible apply upd_new (by assumption)) | (with_reducible apply upd_other (by first | assumption | exact Ne.symm (by assumption))) | (with_reducible refine' Kp.get (by assumption) ?_ (by first | assumption | exact Ne.symm (by assumption))) | (with_reducible apply Same.get (by assumption))); done)); (focus (exact rfl)))
  | with_reducible refine q_ifNT ?_
  | with_reducible refine q_ifNF ?_
  | with_reducible refine q_andNT ?_
  | with_reducible refine q_andNF ?_
  | with_reducible refine q_orNT ?_
  | with_reducible refine q_orNF ?_
  | with_reducible refine q_bKNT ?_
  | with_reducible refine q_bKNF ?_
  | with_reducible refine q_tNGet ?_
  | with_reducible refine q_tNIn ?_
  | with_reducible refine q_sNPut ?_
  | with_reducible refine q_sFldAug ?_
  | with_reducible refine q_sDAug ?_
  | with_reducible refine q_sDDel ?_
  | with_reducible refine q_forX ?_
  | with_reducible refine q_tMake ?_
  | ((with_reducible apply q_dG1a); (focus ((repeat first | (with_reducible exact upd_same) | (with_reducible assumption) | (with_reducible apply upd_new (by assumption)) | (with_reducible apply upd_other (by first | assumption | exact Ne.symm (by assumption))) | (with_reducible refine' Kp.get (by assumption) ?_ (by first | assumption | exact Ne.symm (by assumption))) | (with_reducible apply Same.get (by assumption))); done)))))
theorem ShAt.footK {C x : Addr} {H : Hp} {S : Sh} (h : ShAt C H x S) {b : Addr} (hb : b ∈ S.foot) : ∃ kvs, H b = some (.dK kvs) := by
  rcases foot_of hb with m | m | m
  · exact h.b.free m
  · exact h.d.free m
  · subst m; exact ⟨_, h.v⟩
theorem ShAt.keep {C x : Addr} {H H' : Hp} {S : Sh} (h : ShAt C H x S) (hx : ∀ o, H x = some o → H' x = some o) (hf : ∀ b ∈ S.foot, ∀ o, H b = some o → H' b = some o) : ShAt C H' x S := by
  obtain ⟨dx, fs, h1, h2⟩ := h.ex
  exact ⟨⟨dx, fs, hx _ h1, h2⟩, h.b.mono (fun o q => hf _ (foot_b List.mem_cons_self) o q) (fun b hb o q => hf _ (foot_b (List.mem_cons_of_mem _ hb)) o q),
    h.d.mono (fun o q => hf _ (foot_d List.mem_cons_self) o q) (fun b hb o q => hf _ (foot_d (List.mem_cons_of_mem _ hb)) o q), hf _ foot_v _ h.v, h.n1, h.n2, h.n3⟩
theorem ShAt.out {C x a : Addr} {H H' : Hp} {S : Sh} {o : HO} (h : ShAt C H x S) (ha : H a = some o) (n1 : ∀ dx fs, o ≠ .ins C dx fs) (n2 : ∀ kvs, o ≠ .dK kvs) (k : Kp a H H') : ShAt C H' x S := by
  obtain ⟨dx, fs, h1, h2⟩ := h.ex
  refine h.keep (fun o' q => k.get q fun e => ?_) (fun b hb o' q => k.get q fun e => ?_)
  · subst e
    rw [h1] at ha
    exact n1 dx fs (Option.some.inj ha).symm
  · subst e
    obtain ⟨kvs, q2⟩ := h.footK hb
    rw [q2] at ha
    exact n2 kvs (Option.some.inj ha).symm
theorem setRow_keys (tb : Tab2) (t : Str) (r : Row) : (setRow tb t r).map (·.1) = if t ∈ tb.map (·.1) then tb.map (·.1) else tb.map (·.1) ++ [t] := by
  induction tb with
  | nil => rfl
  | cons p tb ih =>
    obtain ⟨t', r'⟩ := p
    show (if t' = t then (t, r) :: tb else (t', r') :: setRow tb t r : Tab2).map (·.1) = _
    by_cases e : t' = t
    · subst e
      rw [if_pos rfl, if_pos (by exact List.mem_cons_self)]
      rfl
    · rw [if_neg e, List.map_cons, ih]
      by_cases m : t ∈ tb.map (·.1)
      · rw [if_pos m, if_pos (by exact List.mem_cons_of_mem _ m)]
        rfl
      · rw [if_neg m, if_neg (by
          intro q
          rcases List.mem_cons.mp q with q | q
          · exact e q.symm
          · exact m q)]
        rfl
theorem putT_nd {tb : Tab2} (h : (tb.map (·.1)).Nodup) (t x : Str) (i : Int) : ((putT tb t x i).map (·.1)).Nodup := by
  unfold putT
  rw [setRow_keys]
  split
  · exact h
  · rename_i m
    refine List.nodup_append.mpr ⟨h, by simp, fun a ha b hb => ?_⟩
    rw [List.mem_singleton.mp hb]
    rintro rfl
    exact m ha
theorem openT_nd (bs : List BalR) : ((openT bs).map (·.1)).Nodup := by
  suffices h : ∀ (tb : Tab2), (tb.map (·.1)).Nodup → ((bs.foldl (fun tb b => putT tb b.tok b.acc b.amt) tb).map (·.1)).Nodup from h [] List.nodup_nil
  induction bs with
  | nil => exact fun tb h => h
  | cons b bs ih => exact fun tb h => ih _ (putT_nd h _ _ _)

/-! Sheet.copy -/
theorem TblAt.kp {H H' : Hp} {a y C dx : Addr} {fs : List (Str × V)} {tb : Tab2} {as : List Addr} (h : TblAt H a tb as) (hy : H y = some (.ins C dx fs)) (k : Kp y H H') : TblAt H' a tb as := by
  have n : ∀ z ∈ a :: as, z ≠ y := fun z hz e => by
    obtain ⟨kvs, q⟩ := h.free hz
    rw [e, hy] at q; cases q
  exact h.mono (fun o q => k a o q (n a List.mem_cons_self)) fun b hb o q => k b o q (n b (List.mem_cons_of_mem _ hb))
theorem putF_len {f : Str} {v z : V} : ∀ {fs : List (Str × V)}, fs.lookup f = some z → (putF f v fs).length = fs.length
  | [], h => by cases h
  | (g, x) :: r, h => by
    show (if g = f then (g, v) :: r else (g, x) :: putF f v r).length = _
    by_cases e : g = f
    · rw [if_pos e]; rfl
    · rw [if_neg e]
      have h2 : r.lookup f = some z := by
        simp only [List.lookup] at h
        have : (f == g) = false := by
          cases q : f == g with
          | false => rfl
          | true => exact absurd (eq_of_beq q).symm e
        rw [this] at h
        exact h
      exact congrArg (· + 1) (putF_len h2)
def sp_copy (C Cc : Addr) : Sp := fun vs H Q _ => ∃ (x g : Addr) (S : Sh) (c : Parts), vs = [.ref x] ∧ ShAt C H x S ∧ CfgAt Cc c g H S.cf ∧ c.Ok ∧ S.bal.length ≤ 999 ∧ S.bon.length ≤ 999 ∧ (S.bal.map (·.1)).Nodup ∧ (S.bon.map (·.1)).Nodup ∧
  ∀ (y : Addr) (H' : Hp) (S' : Sh), H y = none → ShAt C H' y S' → S'.cf = S.cf → S'.side = S.side → S'.bal = S.bal → S'.bon = S.bon → S'.vau = S.vau → (∀ b ∈ S'.foot, H b = none) → Same H H' → Q (.ref y) H'
theorem q_make {C : Addr} {sp : Sp} {E : XK} {ta : TA} {σ : L2.St} {H : Hp} {Q : VK} (h : ta σ H fun vs H2 => ∀ x dx, H2 x = none → H2 dx = none → dx ≠ x → sp (.ref x :: vs) (upd (upd H2 dx (.own x)) x (.ins C dx [])) (fun v H3 => v = .non ∧ Q (.ref x) H3) E) : tMake C sp [] E ta σ H Q := by
  unfold tMake
  simp only [List.append_nil]
  exact h
section
variable {P : Program} {w : World} {K : PySem.W.Frag} {mg : Str → Option Value} {base : Heap}
theorem ok_Sheet_copy (T : Txt K mg) : FnOk P w K mg base CX0 6 T.f_Sheet_copy T.d_Sheet_copy ["self"] (sp_copy T.C_Sheet T.C_Config) := by
  refine T.F_Sheet_copy.ok sc_Sheet_copy (fun vs H Q E h => ?_) (fun cdv A outer s H vs Q E hr h => ?_)
  · obtain ⟨x, g, S, c, rfl, _⟩ := h; rfl
  · obtain ⟨x, g, S, c, rfl, hS, hC, hc, hl1, hl2, hn1, hn2, k⟩ := h
    obtain ⟨dx, fs, h1, h2, h3, h4, h5, h6, h7⟩ := hS.ex
    have hu := hu_of hr
    refine ⟨_, (pss_cons (ps_set (i := 1) sc_Sheet_copy.nd rfl (Or.inl rfl) (pe_make T.mk_Sheet (ok_Sheet_init T) (hr.mono (by decide)) (by rfl) T.g_Sheet T.b_Sheet_init .nil pass0 (pa_cons (pe_fld (pv 0) rfl) (pa_cons (pe_fld (pv 0) rfl) pa_nil))))
      (pss_cons (ps_fld (pv 1) (pe_call (ok_copied T) (hr.mono (by decide)) (by rfl) T.g_copied T.F_copied.kp T.b_copied .nil pass0 (pa_cons (pe_fld (pv 0) rfl) pa_nil)) rfl)
      (pss_cons (ps_fld (pv 1) (pe_call (ok_copied T) (hr.mono (by decide)) (by rfl) T.g_copied T.F_copied.kp T.b_copied .nil pass0 (pa_cons (pe_fld (pv 0) rfl) pa_nil)) rfl)
      (pss_cons (ps_fld (pv 1) (pe_callTy call_dictD (by rfl) T.z_dict boot_dict (pa_cons (pe_fld (pv 0) rfl) pa_nil)) rfl)
      (pss_one (ps_ret (pv 1))))))), ?_⟩
    (dsimp only [cxOf, Cx.nox, Cx.wish, L2.start, List.map, List.length, List.replicate, List.cons_append, List.nil_append, List.append_eq, Nat.reduceSub, Nat.reduceAdd])
    walk_at "my_rd"
    refine q_fldK h1 T.cl_Sheet T.n_Sheet_config h2 ?_
    walk_at "my_rd"
    refine q_fldK h1 T.cl_Sheet T.n_Sheet_side h3 ?_
    walk_at "my_rd"
    intro y dy ny ndy hne
    have smM : Same H (upd (upd H dy (.own y)) y (.ins T.C_Sheet dy [])) := Same.up (Same.up (Same.refl _) ndy) (upd_free hne.symm ny)
    refine ⟨y, dy, S.cf, g, c, S.side, rfl, upd_same, hC.same smM, hc, fun H1 S1 hS1 e1 e2 _ _ _ hfr kp1 => ⟨rfl, ?_⟩⟩
    have sm1 : Same H H1 := fun b o q => kp1 b o (smM _ _ q) (ne_of_none q ny)
    clear smM kp1 hfr
    obtain ⟨dz, gs, g1, g2, g3, g4, g5, g6, g7, g8⟩ := hS1.ex
    walk_at "my_rd"
    refine q_fldK (sm1 _ _ h1) T.cl_Sheet T.n_Sheet_balances h4 ?_
    walk_at "my_rd"
    refine ⟨S.ba, S.bal, S.bs, rfl, hS.b.same sm1, hl1, hn1, fun d1 ds1 H2 nd1 hT1 hf1 sm2 => ?_⟩
    have sm12 := Same.trans sm1 sm2
    walk_at "my_rd"
    refine q_fputK (sm2 _ _ g1) T.cl_Sheet T.n_Sheet_balances (by omega) ?_
    walk_at "my_rd"
    generalize hH3 : upd H2 y _ = H3
    have hy3 : H3 y = some (.ins T.C_Sheet dz (putF "_balances" (.ref d1) gs)) := by rw [← hH3]; exact upd_same
    have kp23 : Kp y H2 H3 := by rw [← hH3]; exact Kp.upd Kp.refl
    have smx3 : Same H H3 := fun b o q => kp23 b o (sm12 _ _ q) (ne_of_none q ny)
    clear hH3
    refine q_fldK (smx3 _ _ h1) T.cl_Sheet T.n_Sheet_bonds h5 ?_
    walk_at "my_rd"
    refine ⟨S.bo, S.bon, S.ds, rfl, hS.d.same smx3, hl2, hn2, fun d2 ds2 H4 nd2 hT2 hf2 sm4 => ?_⟩
    walk_at "my_rd"
    refine q_fputK (sm4 _ _ hy3) T.cl_Sheet T.n_Sheet_bonds (Nat.lt_of_le_of_lt (q_fldlen (n := 5) g8) (by decide)) ?_
    walk_at "my_rd"
    generalize hH5 : upd H4 y _ = H5
    have hy5 : H5 y = some (.ins T.C_Sheet dz (putF "_bonds" (.ref d2) (putF "_balances" (.ref d1) gs))) := by rw [← hH5]; exact upd_same
    have kp45 : Kp y H4 H5 := by rw [← hH5]; exact Kp.upd Kp.refl
    have smx5 : Same H H5 := fun b o q => kp45 b o (sm4 _ _ (smx3 _ _ q)) (ne_of_none q ny)
    clear hH5
    refine q_fldK (smx5 _ _ h1) T.cl_Sheet T.n_Sheet_vaults h6 ?_
    walk_at "my_rd"
    refine ⟨S.va, rowK S.vau, rfl, .inl (smx5 _ _ hS.v), fun d3 nd3 => ?_⟩
    walk_at "my_rd"
    refine q_fputK (upd_new nd3 hy5) T.cl_Sheet T.n_Sheet_vaults (Nat.lt_of_le_of_lt (q_fldlen (n := 6) (q_fldlen (n := 5) g8)) (by decide)) ?_
    walk_at "my_rd"
    generalize hH6 : upd (upd H5 d3 _) y _ = H6
    have n3y : d3 ≠ y := (ne_of_none hy5 nd3).symm
    have hy6 : H6 y = some (.ins T.C_Sheet dz (putF "_vaults" (.ref d3) (putF "_bonds" (.ref d2) (putF "_balances" (.ref d1) gs)))) := by rw [← hH6]; exact upd_same
    have hv6 : H6 d3 = some (.dK (rowK S.vau)) := by rw [← hH6]; exact upd_other n3y upd_same
    have kp56 : Kp y H5 H6 := by rw [← hH6]; exact Kp.upd (Kp.new Kp.refl nd3)
    clear hH6
    have kp46 : Kp y H4 H6 := Kp.trans kp45 kp56
    have kp25 : Kp y H2 H5 := Kp.trans kp23 (Kp.trans (Same.kp sm4) kp45)
    have hy2 := sm2 _ _ g1
    have hy4 := sm4 _ _ hy3
    refine k y H6 ⟨S.cf, S.side, d1, d2, d3, S.bal, S.bon, S.vau, ds1, ds2⟩ ny ⟨⟨dz, _, hy6, ?_, ?_, ?_, ?_, ?_, ?_, ?_⟩, hT1.kp hy2 (Kp.trans kp25 kp56), hT2.kp hy4 kp46, hv6, ?_, ?_, ?_⟩ rfl rfl rfl rfl rfl ?_ (fun b o q => kp56 b o (smx5 _ _ q) (ne_of_none q ny))
    · rw [lookup_putF, if_neg (by decide +kernel), lookup_putF, if_neg (by decide +kernel), lookup_putF, if_neg (by decide +kernel), g2, e1]
    · rw [lookup_putF, if_neg (by decide +kernel), lookup_putF, if_neg (by decide +kernel), lookup_putF, if_neg (by decide +kernel), g3, e2]
    · (repeat first | rfl | rw [lookup_putF, if_pos rfl] | rw [lookup_putF, if_neg (by decide +kernel)])
    · (repeat first | rfl | rw [lookup_putF, if_pos rfl] | rw [lookup_putF, if_neg (by decide +kernel)])
    · (repeat first | rfl | rw [lookup_putF, if_pos rfl] | rw [lookup_putF, if_neg (by decide +kernel)])
    · intro m hm
      have hne : ∀ z ∈ shNames, ¬ m = z := fun z hz e => hm (e ▸ hz)
      rw [lookup_putF, if_neg (hne _ (by decide +kernel)), lookup_putF, if_neg (hne _ (by decide +kernel)), lookup_putF, if_neg (hne _ (by decide +kernel))]
      exact g7 m hm
    · rw [putF_len (z := .ref S1.va) (by rw [lookup_putF, if_neg (by decide +kernel), lookup_putF, if_neg (by decide +kernel)]; exact g6), putF_len (z := .ref S1.bo) (by rw [lookup_putF, if_neg (by decide +kernel)]; exact g5), putF_len g4]
      exact g8
    · intro b hb m
      obtain ⟨_, q⟩ := (hT1.kp hy2 kp23).free hb
      rcases List.mem_cons.mp m with e | e
      · rw [e, nd2] at q; cases q
      · rw [hf2 b e] at q; cases q
    · intro m
      obtain ⟨_, q⟩ := (hT1.kp hy2 kp25).free m
      have nd3' : H5 d3 = none := nd3
      rw [nd3'] at q; cases q
    · intro m
      obtain ⟨_, q⟩ := (hT2.kp hy4 kp45).free m
      have nd3' : H5 d3 = none := nd3
      rw [nd3'] at q; cases q
    · intro b hb
      rcases foot_of hb with m | m | m
      · rcases List.mem_cons.mp m with e | e
        · subst e; exact Same.free sm1 nd1
        · exact Same.free sm1 (hf1 b e)
      · rcases List.mem_cons.mp m with e | e
        · subst e; exact Same.free smx3 nd2
        · exact Same.free smx3 (hf2 b e)
      · subst m; exact Same.free smx5 nd3
end

local macro_rules | `(tactic| walk_at "my_rd") => `(tactic| (repeat first
  | with_reducible refine q_tCons ?_
  | ((with_reducible apply q_var); (focus (exact rfl)))
  | with_reducible refine q_c ?_
  | ((with_reducible apply q_nxE); (focus (with_reducible exact rfl)))
  | with_reducible refine q_bK ?_
  | with_reducible refine q_call ?_
  | with_reducible refine q_callK ?_
  | with_reducible refine q_tNil ?_
  | with_reducible refine q_cb ?_
  | with_reducible refine q_seq ?_
  | with_reducible refine q_asg ?_
  | with_reducible refine q_gName ?_
  | with_reducible refine q_op ?_
  | with_reducible refine q_test ?_
  | with_reducible refine q_tB ?_
  | with_reducible refine q_ifS ?_
  | with_reducible refine q_ret ?_
  | ((with_reducible apply q_rtE); (focus (with_reducible exact rfl)))
  | with_reducible refine q_next ?_
  | with_reducible refine q_ifF ?_
  | with_reducible refine q_ifT ?_
  | with_reducible refine q_drop ?_
  | with_reducible refine q_and ?_
  | with_reducible refine q_or ?_
  | with_reducible refine q_andT ?_
  | with_reducible refine q_andF ?_
  | with_reducible refine q_orF ?_
  | with_reducible refine q_orT ?_
  | with_reducible refine q_andV ?_
  | with_reducible refine q_andVT ?_
  | with_reducible refine q_andVF ?_
  | with_reducible refine q_orV ?_
  | with_reducible refine q_gCons ?_
  | with_reducible refine q_gNil ?_
  | with_reducible refine q_tup ?_
  | with_reducible refine q_lst ?_
  | with_reducible refine q_not ?_
  | with_reducible refine q_notKT ?_
  | with_reducible refine q_notKF ?_
  | with_reducible refine q_I0 ?_
  | with_reducible refine q_eqI ?_
  | with_reducible refine q_neI ?_
  | ((with_reducible refine q_I ?_ ?_); first | decide | omega | exact ⟨by omega, by omega⟩ | exact ⟨by decide, by decide⟩ | exact .inl ⟨by omega, by omega⟩ | exact .inr ⟨by omega, by omega⟩ | exact .inr ⟨by decide, by decide⟩)
  | with_reducible refine q_eqS ?_
  | with_reducible refine q_neS ?_
  | with_reducible refine q_brk ?_
  | with_reducible refine q_ct ?_
  | ((with_reducible apply q_bkE); (focus (with_reducible exact rfl)))
  | ((with_reducible apply q_cnE); (focus (with_reducible exact rfl)))
  | with_reducible refine q_retN ?_
  | with_reducible refine q_gSub ?_
  | with_reducible refine q_for ?_
  | with_reducible refine q_iList ?_
  | with_reducible refine q_iTup ?_
  | with_reducible refine q_iRng1 ?_
  | with_reducible refine q_notK ?_
  | with_reducible refine q_orVT ?_
  | with_reducible refine q_orVF ?_
  | with_reducible refine q_notV ?_
  | with_reducible refine q_notVK ?_
  | with_reducible refine q_ifE ?_
  | with_reducible refine q_ifET ?_
  | with_reducible refine q_ifEF ?_
  | with_reducible refine q_yes ?_
  | with_reducible refine q_un ?_
  | with_reducible refine q_rU ?_
  | with_reducible refine q_abs ?_
  | with_reducible refine q_int1 ?_
  | with_reducible refine q_bm ?_
  | with_reducible refine q_bm0 ?_
  | with_reducible refine q_lc ?_
  | with_reducible refine q_keepT ?_
  | with_reducible refine q_keepF ?_
  | ((with_reducible apply q_aug); (focus (exact rfl)))
  | with_reducible refine q_ipI ?_
  | with_reducible refine q_chain ?_
  | with_reducible refine q_pairC ?_
  | with_reducible refine q_pairsK ?_
  | with_reducible refine q_pairN ?_
  | with_reducible refine q_fld ?_
  | with_reducible refine q_sFld ?_
  | with_reducible refine q_meth ?_
  | with_reducible refine q_makeK ?_
  | with_reducible refine q_isBl ?_
  | with_reducible refine q_notBl ?_
  | with_reducible refine q_sl ?_
  | with_reducible refine q_noPart ?_
  | with_reducible refine q_part ?_
  | with_reducible refine q_partK ?_
  | ((with_reducible apply q_mulStr); (focus (decide +kernel)))
  | with_reducible refine q_chT ?_
  | with_reducible refine q_chF ?_
  | with_reducible refine q_ord ?_
  | with_reducible refine q_iStr0 ?_
  | with_reducible refine q_iStr ?_
  | with_reducible refine q_tDIn ?_
  | with_reducible refine q_tDNotIn ?_
  | with_reducible refine q_tDGet ?_
  | with_reducible refine q_tDGet2 ?_
  | with_reducible refine q_tDGet1 ?_
  | with_reducible refine q_tDSetd ?_
  | ((with_reducible apply q_dG2a); (focus ((repeat first | (with_reducible exact upd_same) | (with_reducible assumption) | (with_reducible apply upd_new (by assumption)) | (with_reducible apply upd_other (by first | assumption | exact Ne.symm (by assumption))) | (with_reducible refine' Kp.get (by assumption) ?_ (by first | assumption | exact Ne.symm (by assumption))) | (with_reducible apply Same.get (by assumption))); done)))
  | ((with_reducible apply q_dSda); (focus ((repeat first | (with_reducible exact upd_same) | (with_reducible assumption) | (with_reducible apply upd_new (by assumption)) | (with_reducible apply upd_other (by first | assumption | exact Ne.symm (by assumption))) | (with_reducible refine' Kp.get (by assumption) ?_ (by first | assumption | exact Ne.symm (by assumption))) | (with_reducible apply Same.get (by assumption))); done)))
  | with_reducible refine q_sDPut ?_
  | ((with_reducible apply q_dInS); (focus ((repeat first | (with_reducible exact upd_same) | (with_reducible assumption) | (with_reducible apply upd_new (by assumption)) | (with_reducible apply upd_other (by first | assumption | exact Ne.symm (by assumption))) | (with_reducible refine' Kp.get (by assumption) ?_ (by first | assumption | exact Ne.symm (by assumption))) | (with_reducible apply Same.get (by assumption))); done)))
  | ((with_reducible apply q_dNInS); (focus ((repeat first | (with_reducible exact upd_same) | (with_reducible assumption) | (with_reducible apply upd_new (by assumption)) | (with_reducible apply upd_other (by first | assumption | exact Ne.symm (by assumption))) | (with_reducible refine' Kp.get (by assumption) ?_ (by first | assumption | exact Ne.symm (by assumption))) | (with_reducible apply Same.get (by assumption))); done)))
  | ((with_reducible apply q_dInI); (focus ((repeat first | (with_reducible exact upd_same) | (with_reducible assumption) | (with_reducible apply upd_new (by assumption)) | (with_reducible apply upd_other (by first | assumption | exact Ne.symm (by assumption))) | (with_reducible refine' Kp.get (by assumption) ?_ (by first | assumption | exact Ne.symm (by assumption))) | (with_reducible apply Same.get (by assumption))); done)))
  | ((with_reducible apply q_dNInI); (focus ((repeat first | (with_reducible exact upd_same) | (with_reducible assumption) | (with_reducible apply upd_new (by assumption)) | (with_reducible apply upd_other (by first | assumption | exact Ne.symm (by assumption))) | (with_reducible refine' Kp.get (by assumption) ?_ (by first | assumption | exact Ne.symm (by assumption))) | (with_reducible apply Same.get (by assumption))); done)))
  | ((with_reducible apply q_bmL); (focus ((repeat first | (with_reducible exact upd_same) | (with_reducible assumption) | (with_reducible apply upd_new (by assumption)) | (with_reducible apply upd_other (by first | assumption | exact Ne.symm (by assumption))) | (with_reducible refine' Kp.get (by assumption) ?_ (by first | assumption | exact Ne.symm (by assumption))) | (with_reducible apply Same.get (by assumption))); done)))
  | ((with_reducible apply q_bmL0); (focus ((repeat first | (with_reducible exact upd_same) | (with_reducible assumption) | (with_reducible apply upd_new (by assumption)) | (with_reducible apply upd_other (by first | assumption | exact Ne.symm (by assumption))) | (with_reducible refine' Kp.get (by assumption) ?_ (by first | assumption | exact Ne.symm (by assumption))) | (with_reducible apply Same.get (by assumption))); done)))
  | ((with_reducible apply q_ixLt); (focus ((repeat first | (with_reducible exact upd_same) | (with_reducible assumption) | (with_reducible apply upd_new (by assumption)) | (with_reducible apply upd_other (by first | assumption | exact Ne.symm (by assumption))) | (with_reducible refine' Kp.get (by assumption) ?_ (by first | assumption | exact Ne.symm (by assumption))) | (with_reducible apply Same.get (by assumption))); done)); (focus (exact rfl)))
  | ((with_reducible apply q_ixTt); (focus ((repeat first | (with_reducible exact upd_same) | (with_reducible assumption) | (with_reducible apply upd_new (by assumption)) | (with_reducible apply upd_other (by first | assumption | exact Ne.symm (by assumption))) | (with_reducible refine' Kp.get (by assumption) ?_ (by first | assumption | exact Ne.symm (by assumption))) | (with_reducible apply Same.get (by assumption))); done)); (focus (exact rfl)))
  | ((with_reducible apply q_lenLt); (focus ((repeat first | (with_reducible exact upd_same) | (with_reducible assumption) | (with_reducible apply upd_new (by assumption)) | (with_reducible apply upd_other (by first | assumption | exact Ne.symm (by assumption))) | (with_reducible refine' Kp.get (by assumption) ?_ (by first | assumption | exact Ne.symm (by assumption))) | (with_reducible apply Same.get (by assumption))); done)))
  | ((with_reducible apply q_lenTt); (focus ((repeat first | (with_reducible exact upd_same) | (with_reducible assumption) | (with_reducible apply upd_new (by assumption)) | (with_reducible apply upd_other (by first | assumption | exact Ne.symm (by assumption))) | (with_reducible refine' Kp.get (by assumption) ?_ (by first | assumption | exact Ne.symm (by assumption))) | (with_reducible apply Same.get (by assumption))); done)))
  | ((with_reducible apply q_append); (focus ((repeat first | (with_reducible exact upd_same) | (with_reducible assumption) | (with_reducible apply upd_new (by assumption)) | (with_reducible apply upd_other (by first | assumption | exact Ne.symm (by assumption))) | (with_reducible refine' Kp.get (by assumption) ?_ (by first | assumption | exact Ne.symm (by assumption))) | (with_reducible apply Same.get (by assumption))); done)); (focus ((first | (exact Nat.lt_of_ble_eq_true rfl) | (simp only [List.length_append, List.length_cons, List.length_nil, List.length_map]; exact small1000 (by omega))))))
  | ((with_reducible apply q_setL); (focus ((repeat first | (with_reducible exact upd_same) | (with_reducible assumption) | (with_reducible apply upd_new (by assumption)) | (with_reducible apply upd_other (by first | assumption | exact Ne.symm (by assumption))) | (with_reducible refine' Kp.get (by assumption) ?_ (by first | assumption | exact Ne.symm (by assumption))) | (with_reducible apply Same.get (by assumption))); done)); (focus (exact rfl)))
  | with_reducible refine q_ifNT ?_
  | with_reducible refine q_ifNF ?_
  | with_reducible refine q_andNT ?_
  | with_reducible refine q_andNF ?_
  | with_reducible refine q_orNT ?_
  | with_reducible refine q_orNF ?_
  | with_reducible refine q_bKNT ?_
  | with_reducible refine q_bKNF ?_
  | with_reducible refine q_tNGet ?_
  | with_reducible refine q_tNIn ?_
  | with_reducible refine q_sNPut ?_
  | with_reducible refine q_sFldAug ?_
  | with_reducible refine q_sDAug ?_
  | with_reducible refine q_sDDel ?_
  | with_reducible refine q_forX ?_
  | with_reducible refine q_tMake ?_
  | ((with_reducible apply q_dG1a); (focus ((repeat first | (with_reducible exact upd_same) | (with_reducible assumption) | (with_reducible apply upd_new (by assumption)) | (with_reducible apply upd_other (by first | assumption | exact Ne.symm (by assumption))) | (with_reducible refine' Kp.get (by assumption) ?_ (by first | assumption | exact Ne.symm (by assumption))) | (with_reducible apply Same.get (by assumption))); done)))))
/-! states -/
structure St0 where
  cf : Addr
  side : Str
  sh : Addr
  S : Sh
  height : Int
  stops : Int
  stopped : Bool
  l1 : Addr
  l2 : Addr
  l3 : Addr
  e1 : Addr
  e2 : Addr
  e3 : Addr
  sets : List V
  trs : List V
  dels : List V
  ret : List (Key × V)
  tak : List (Key × V)
  wai : List (Key × V)
def St0.own (M : St0) : List Addr := [M.l1, M.l2, M.l3, M.e1, M.e2, M.e3]
def St0.all (M : St0) : List Addr := M.sh :: M.own ++ M.S.foot
def stNames : List Str := ["_config", "_side", "_sheet", "_height", "_sets", "_stops", "_stopped", "_transfers", "_returned", "_taken", "_waiting", "_deliveries"]
/-- a state but for its sheet -/
structure StR (C : Addr) (H : Hp) (x : Addr) (M : St0) : Prop where
  ex : ∃ dx fs, H x = some (.ins C dx fs) ∧ fs.lookup ("_config" : Str) = some (.ref M.cf) ∧ fs.lookup ("_side" : Str) = some (.str M.side) ∧ fs.lookup ("_sheet" : Str) = some (.ref M.sh) ∧ fs.lookup ("_height" : Str) = some (.int M.height) ∧
    fs.lookup ("_sets" : Str) = some (.ref M.l1) ∧ fs.lookup ("_stops" : Str) = some (.int M.stops) ∧ fs.lookup ("_stopped" : Str) = some (.bl M.stopped) ∧ fs.lookup ("_transfers" : Str) = some (.ref M.l2) ∧ fs.lookup ("_returned" : Str) = some (.ref M.e1) ∧
    fs.lookup ("_taken" : Str) = some (.ref M.e2) ∧ fs.lookup ("_waiting" : Str) = some (.ref M.e3) ∧ fs.lookup ("_deliveries" : Str) = some (.ref M.l3) ∧ (∀ m : Str, m ∉ stNames → fs.lookup m = none) ∧ fs.length ≤ 22
  a1 : H M.l1 = some (.lst M.sets)
  a2 : H M.l2 = some (.lst M.trs)
  a3 : H M.l3 = some (.lst M.dels)
  b1 : H M.e1 = some (.dK M.ret)
  b2 : H M.e2 = some (.dK M.tak)
  b3 : H M.e3 = some (.dK M.wai)
  s1 : M.l1 ≠ M.l2 ∧ M.l1 ≠ M.l3 ∧ M.l2 ≠ M.l3
  s2 : M.e1 ≠ M.e2 ∧ M.e1 ≠ M.e3 ∧ M.e2 ≠ M.e3
structure StAt (C Cs : Addr) (H : Hp) (x : Addr) (M : St0) : Prop where
  r : StR C H x M
  sh : ShAt Cs H M.sh M.S
  cf : M.S.cf = M.cf
  nx : x ≠ M.sh
  sf : ∀ b ∈ M.S.foot, b ≠ M.e1 ∧ b ≠ M.e2 ∧ b ≠ M.e3
theorem StR.keep {C : Addr} {H H' : Hp} {x : Addr} {M : St0} (h : StR C H x M) (e : ∀ b, b = x ∨ b ∈ M.own → ∀ o, H b = some o → H' b = some o) : StR C H' x M := by
  obtain ⟨dx, fs, q, r⟩ := h.ex
  exact ⟨⟨dx, fs, e _ (.inl rfl) _ q, r⟩, e _ (.inr (by simp [St0.own])) _ h.a1, e _ (.inr (by simp [St0.own])) _ h.a2, e _ (.inr (by simp [St0.own])) _ h.a3, e _ (.inr (by simp [St0.own])) _ h.b1, e _ (.inr (by simp [St0.own])) _ h.b2, e _ (.inr (by simp [St0.own])) _ h.b3, h.s1, h.s2⟩
theorem all_own {M : St0} {b : Addr} (h : b ∈ M.own) : b ∈ M.all := List.mem_append.mpr (.inl (List.mem_cons_of_mem _ h))
theorem all_sh {M : St0} : M.sh ∈ M.all := List.mem_append.mpr (.inl List.mem_cons_self)
theorem all_foot {M : St0} {b : Addr} (h : b ∈ M.S.foot) : b ∈ M.all := List.mem_append.mpr (.inr h)
theorem all_of {M : St0} {b : Addr} (h : b ∈ M.all) : b = M.sh ∨ b ∈ M.own ∨ b ∈ M.S.foot := by
  rcases List.mem_append.mp h with m | m
  · rcases List.mem_cons.mp m with m | m
    · exact .inl m
    · exact .inr (.inl m)
  · exact .inr (.inr m)
theorem StAt.keep {C Cs : Addr} {H H' : Hp} {x : Addr} {M : St0} (h : StAt C Cs H x M) (e : ∀ b, b = x ∨ b ∈ M.all → ∀ o, H b = some o → H' b = some o) : StAt C Cs H' x M :=
  ⟨h.r.keep fun b hb o q => e b (hb.imp_right all_own) o q, h.sh.keep (fun o q => e _ (.inr all_sh) o q) (fun b hb o q => e _ (.inr (all_foot hb)) o q), h.cf, h.nx, h.sf⟩
theorem StAt.same {C Cs : Addr} {H H' : Hp} {x : Addr} {M : St0} (h : StAt C Cs H x M) (e : Same H H') : StAt C Cs H' x M := h.keep fun b _ o q => e b o q
theorem StAt.some_ {C Cs : Addr} {H : Hp} {x : Addr} {M : St0} (h : StAt C Cs H x M) {b : Addr} (m : b = x ∨ b ∈ M.all) : ∃ o, H b = some o := by
  rcases m with rfl | m
  · obtain ⟨dx, fs, q, _⟩ := h.r.ex; exact ⟨_, q⟩
  · rcases all_of m with rfl | m | m
    · obtain ⟨dx, fs, q, _⟩ := h.sh.ex; exact ⟨_, q⟩
    · simp only [St0.own, List.mem_cons, List.not_mem_nil, or_false] at m
      rcases m with rfl | rfl | rfl | rfl | rfl | rfl
      · exact ⟨_, h.r.a1⟩
      · exact ⟨_, h.r.a2⟩
      · exact ⟨_, h.r.a3⟩
      · exact ⟨_, h.r.b1⟩
      · exact ⟨_, h.r.b2⟩
      · exact ⟨_, h.r.b3⟩
    · obtain ⟨kvs, q⟩ := h.sh.footK m; exact ⟨_, q⟩
/-- what a sheet of a state keeps -/
structure ShG (S : Sh) : Prop where
  b : S.bal.length ≤ 999
  d : S.bon.length ≤ 999
  nb : (S.bal.map (·.1)).Nodup
  nd : (S.bon.map (·.1)).Nodup
/-- equal in what they hold -/
structure StEq (M M' : St0) : Prop where
  cf : M'.cf = M.cf
  side : M'.side = M.side
  height : M'.height = M.height
  stops : M'.stops = M.stops
  stopped : M'.stopped = M.stopped
  sets : M'.sets = M.sets
  trs : M'.trs = M.trs
  dels : M'.dels = M.dels
  ret : M'.ret = M.ret
  tak : M'.tak = M.tak
  wai : M'.wai = M.wai
  ss : M'.S.side = M.S.side
  bal : M'.S.bal = M.S.bal
  bon : M'.S.bon = M.S.bon
  vau : M'.S.vau = M.S.vau
theorem StEq.g {M M' : St0} (h : StEq M M') (g : ShG M.S) : ShG M'.S := ⟨by rw [h.bal]; exact g.b, by rw [h.bon]; exact g.d, by rw [h.bal]; exact g.nb, by rw [h.bon]; exact g.nd⟩
def sp_stI (C Cc : Addr) : Sp := fun vs H Q _ => ∃ (x dx cf g sh : Addr) (c : Parts) (sd : Str) (S : Sh), vs = [.ref x, .ref cf, .str sd, .ref sh] ∧ H x = some (.ins C dx []) ∧ CfgAt Cc c g H cf ∧
  ∀ (H' : Hp) (l1 l2 l3 e1 e2 e3 : Addr), StR C H' x ⟨cf, sd, sh, S, 0, 0, false, l1, l2, l3, e1, e2, e3, [.ref g], [], [], [], [], []⟩ → (∀ b ∈ [l1, l2, l3, e1, e2, e3], H b = none) → Kp x H H' → Q .non H'
def sp_stC (C Cs Cc : Addr) : Sp := fun vs H Q _ => ∃ (x g : Addr) (M : St0) (c : Parts), vs = [.ref x] ∧ StAt C Cs H x M ∧ CfgAt Cc c g H M.cf ∧ c.Ok ∧ ShG M.S ∧
  ∀ (y : Addr) (H' : Hp) (M' : St0), H y = none → StAt C Cs H' y M' → StEq M M' → (∀ b ∈ M'.all, H b = none) → Same H H' → Q (.ref y) H'
def sp_stR (C Cs : Addr) : Sp := fun vs H Q _ => ∃ (x : Addr) (M : St0), vs = [.ref x] ∧ StAt C Cs H x M ∧ ∀ H', StAt C Cs H' x { M with height := M.height + 1 } → Kp x H H' → Q .non H'
def sp_open (C Cs Cc : Addr) : Sp := fun vs H Q _ => ∃ (cf g : Addr) (c : Parts) (sd : Str), vs = [.ref cf, .str sd] ∧ CfgAt Cc c g H cf ∧ c.Ok ∧
  ∀ (y : Addr) (H' : Hp) (M : St0), H y = none → StAt C Cs H' y M → (M.cf = cf ∧ M.side = sd ∧ M.height = 0 ∧ M.stops = 0 ∧ M.stopped = false ∧ M.sets = [.ref g] ∧ M.trs = [] ∧ M.dels = [] ∧ M.ret = [] ∧ M.tak = [] ∧ M.wai = [] ∧ M.S.side = sd ∧ M.S.bal = openT (c.bals.filter fun b => decide (c.homeOf b.tok = sd)) ∧ M.S.bon = [] ∧ M.S.vau = []) → (∀ b ∈ M.all, H b = none) → Same H H' → Q (.ref y) H'
def sp_nh (C Cs Cc : Addr) : Sp := fun vs H Q _ => ∃ (x g : Addr) (M : St0) (c : Parts), vs = [.ref x] ∧ StAt C Cs H x M ∧ CfgAt Cc c g H M.cf ∧ c.Ok ∧ ShG M.S ∧
  ∀ (y : Addr) (H' : Hp) (M' : St0), H y = none → StAt C Cs H' y M' → StEq { M with height := M.height + 1 } M' → (∀ b ∈ M'.all, H b = none) → Same H H' → Q (.ref y) H'
theorem no_st : ("copy" : Str) ∉ stNames ∧ ("rise" : Str) ∉ stNames ∧ ("copy" : Str) ∉ shNames ∧ ("guards" : Str) ∉ cfgNames := by decide +kernel
section
variable {P : Program} {w : World} {K : PySem.W.Frag} {mg : Str → Option Value} {base : Heap}

theorem ok_State_init (T : Txt K mg) : FnOk P w K mg base CX0 2 T.f_State_init T.d_State_init ["self", "config", "side", "sheet"] (sp_stI T.C_State T.C_Config) := by
  refine T.F_State_init.ok sc_State_init (fun vs H Q E h => ?_) (fun cdv A outer s H vs Q E hr h => ?_)
  · obtain ⟨x, dx, cf, g, sh, c, sd, S, rfl, _⟩ := h; rfl
  · obtain ⟨x, dx, cf, g, sh, c, sd, S, rfl, hx0, hC, k⟩ := h
    refine ⟨_, (pss_cons (ps_fld (pv 0) (pv 1) rfl)
      (pss_cons (ps_fld (pv 0) (pv 2) rfl)
      (pss_cons (ps_fld (pv 0) (pv 3) rfl)
      (pss_cons (ps_fld (pv 0) pe_int rfl)
      (pss_cons (ps_fld (pv 0) (pe_lst (pa_cons (pe_meth0 (pv 1) T.cl_Config T.m_Config_guards (ok_Config_guards T) (hr.mono (by decide)) T.b_Config_guards .nil pass0) pa_nil)) rfl)
      (pss_cons (ps_fld (pv 0) pe_int rfl)
      (pss_cons (ps_fld (pv 0) pe_bl rfl)
      (pss_cons (ps_fld (pv 0) (pe_lst pa_nil) rfl)
      (pss_cons (ps_fld (pv 0) pe_dnewK rfl)
      (pss_cons (ps_fld (pv 0) pe_dnewK rfl)
      (pss_cons (ps_fld (pv 0) pe_dnewK rfl)
      (pss_one (ps_fld (pv 0) (pe_lst pa_nil) rfl))))))))))))), ?_⟩
    have kp0 : Kp x H H := Kp.refl
    have len0 : ([] : List (Str × V)).length ≤ 0 := Nat.le_refl _
    have hh0 : H x = some (.ins T.C_State dx []) := hx0
    (dsimp only [cxOf, Cx.nox, Cx.wish, L2.start, List.map, List.length, List.replicate, List.cons_append, List.nil_append, List.append_eq, Nat.reduceSub, Nat.reduceAdd])
    walk_at "my_rd"
    refine q_fputK hx0 T.cl_State T.n_State_config (Nat.lt_of_le_of_lt len0 (by decide)) ?_
    have len1 : ((putF "_config" (.ref cf) []) : List (Str × V)).length ≤ 1 := q_fldlen len0
    have hx1 : (upd (H) x (.ins T.C_State dx (putF "_config" (.ref cf) []))) x = some (.ins T.C_State dx (putF "_config" (.ref cf) [])) := upd_same
    have kk1 : Kp x (H) (upd (H) x (.ins T.C_State dx (putF "_config" (.ref cf) []))) := Kp.upd Kp.refl
    have kp1 := Kp.trans kp0 kk1
    generalize (upd (H) x (.ins T.C_State dx (putF "_config" (.ref cf) []))) = H1 at hx1 kk1 kp1 ⊢
    clear kk1
    walk_at "my_rd"
    refine q_fputK hx1 T.cl_State T.n_State_side (Nat.lt_of_le_of_lt len1 (by decide)) ?_
    have len2 : ((putF "_side" (.str sd) (putF "_config" (.ref cf) [])) : List (Str × V)).length ≤ 2 := q_fldlen len1
    have hx2 : (upd (H1) x (.ins T.C_State dx (putF "_side" (.str sd) (putF "_config" (.ref cf) [])))) x = some (.ins T.C_State dx (putF "_side" (.str sd) (putF "_config" (.ref cf) []))) := upd_same
    have kk2 : Kp x (H1) (upd (H1) x (.ins T.C_State dx (putF "_side" (.str sd) (putF "_config" (.ref cf) [])))) := Kp.upd Kp.refl
    have kp2 := Kp.trans kp1 kk2
    generalize (upd (H1) x (.ins T.C_State dx (putF "_side" (.str sd) (putF "_config" (.ref cf) [])))) = H2 at hx2 kk2 kp2 ⊢
    clear kk2
    walk_at "my_rd"
    refine q_fputK hx2 T.cl_State T.n_State_sheet (Nat.lt_of_le_of_lt len2 (by decide)) ?_
    have len3 : ((putF "_sheet" (.ref sh) (putF "_side" (.str sd) (putF "_config" (.ref cf) []))) : List (Str × V)).length ≤ 3 := q_fldlen len2
    have hx3 : (upd (H2) x (.ins T.C_State dx (putF "_sheet" (.ref sh) (putF "_side" (.str sd) (putF "_config" (.ref cf) []))))) x = some (.ins T.C_State dx (putF "_sheet" (.ref sh) (putF "_side" (.str sd) (putF "_config" (.ref cf) [])))) := upd_same
    have kk3 : Kp x (H2) (upd (H2) x (.ins T.C_State dx (putF "_sheet" (.ref sh) (putF "_side" (.str sd) (putF "_config" (.ref cf) []))))) := Kp.upd Kp.refl
    have kp3 := Kp.trans kp2 kk3
    generalize (upd (H2) x (.ins T.C_State dx (putF "_sheet" (.ref sh) (putF "_side" (.str sd) (putF "_config" (.ref cf) []))))) = H3 at hx3 kk3 kp3 ⊢
    clear kk3
    walk_at "my_rd"
    refine q_fputK hx3 T.cl_State T.n_State_height (Nat.lt_of_le_of_lt len3 (by decide)) ?_
    have len4 : ((putF "_height" (.int 0) (putF "_sheet" (.ref sh) (putF "_side" (.str sd) (putF "_config" (.ref cf) [])))) : List (Str × V)).length ≤ 4 := q_fldlen len3
    have hx4 : (upd (H3) x (.ins T.C_State dx (putF "_height" (.int 0) (putF "_sheet" (.ref sh) (putF "_side" (.str sd) (putF "_config" (.ref cf) [])))))) x = some (.ins T.C_State dx (putF "_height" (.int 0) (putF "_sheet" (.ref sh) (putF "_side" (.str sd) (putF "_config" (.ref cf) []))))) := upd_same
    have kk4 : Kp x (H3) (upd (H3) x (.ins T.C_State dx (putF "_height" (.int 0) (putF "_sheet" (.ref sh) (putF "_side" (.str sd) (putF "_config" (.ref cf) [])))))) := Kp.upd Kp.refl
    have kp4 := Kp.trans kp3 kk4
    generalize (upd (H3) x (.ins T.C_State dx (putF "_height" (.int 0) (putF "_sheet" (.ref sh) (putF "_side" (.str sd) (putF "_config" (.ref cf) [])))))) = H4 at hx4 kk4 kp4 ⊢
    clear kk4
    walk_at "my_rd"
    have hC5 := CfgAt.kp hC hx0 kp4
    obtain ⟨dc, fc, _, _, _, _, hc1, _, _, _, _, _, _, _, hc9, _⟩ := id hC5.ex
    refine q_methK hc1 (hc9 _ no_st.2.2.2) fun R hR => ?_
    walk_at "my_rd"
    refine hR _ _ ⟨cf, g, c, rfl, hC5, ?_⟩
    clear hR hc1 hc9
    walk_at "my_rd"
    refine q_lstK (Nat.le_of_ble_eq_true rfl) fun l1 nl1 => ?_
    walk_at "my_rd"
    refine q_fputK (upd_new nl1 hx4) T.cl_State T.n_State_sets (Nat.lt_of_le_of_lt len4 (by decide)) ?_
    have len5 : ((putF "_sets" (.ref l1) (putF "_height" (.int 0) (putF "_sheet" (.ref sh) (putF "_side" (.str sd) (putF "_config" (.ref cf) []))))) : List (Str × V)).length ≤ 5 := q_fldlen len4
    have hx5 : (upd (upd H4 l1 (.lst [.ref g])) x (.ins T.C_State dx (putF "_sets" (.ref l1) (putF "_height" (.int 0) (putF "_sheet" (.ref sh) (putF "_side" (.str sd) (putF "_config" (.ref cf) []))))))) x = some (.ins T.C_State dx (putF "_sets" (.ref l1) (putF "_height" (.int 0) (putF "_sheet" (.ref sh) (putF "_side" (.str sd) (putF "_config" (.ref cf) [])))))) := upd_same
    have xl1 : l1 ≠ x := (ne_of_none hx4 nl1).symm
    have zl1 : H l1 = none := Kp.fresh kp4 hh0 nl1 xl1
    have kk5 : Kp x (H4) (upd (upd H4 l1 (.lst [.ref g])) x (.ins T.C_State dx (putF "_sets" (.ref l1) (putF "_height" (.int 0) (putF "_sheet" (.ref sh) (putF "_side" (.str sd) (putF "_config" (.ref cf) []))))))) := Kp.upd (Kp.new Kp.refl nl1)
    have cl1_5 : (upd (upd H4 l1 (.lst [.ref g])) x (.ins T.C_State dx (putF "_sets" (.ref l1) (putF "_height" (.int 0) (putF "_sheet" (.ref sh) (putF "_side" (.str sd) (putF "_config" (.ref cf) []))))))) l1 = some (.lst [.ref g]) := upd_other xl1 upd_same
    have kp5 := Kp.trans kp4 kk5
    generalize (upd (upd H4 l1 (.lst [.ref g])) x (.ins T.C_State dx (putF "_sets" (.ref l1) (putF "_height" (.int 0) (putF "_sheet" (.ref sh) (putF "_side" (.str sd) (putF "_config" (.ref cf) []))))))) = H5 at hx5 kk5 kp5 cl1_5 ⊢
    clear kk5
    walk_at "my_rd"
    refine q_fputK hx5 T.cl_State T.n_State_stops (Nat.lt_of_le_of_lt len5 (by decide)) ?_
    have len6 : ((putF "_stops" (.int 0) (putF "_sets" (.ref l1) (putF "_height" (.int 0) (putF "_sheet" (.ref sh) (putF "_side" (.str sd) (putF "_config" (.ref cf) [])))))) : List (Str × V)).length ≤ 6 := q_fldlen len5
    have hx6 : (upd (H5) x (.ins T.C_State dx (putF "_stops" (.int 0) (putF "_sets" (.ref l1) (putF "_height" (.int 0) (putF "_sheet" (.ref sh) (putF "_side" (.str sd) (putF "_config" (.ref cf) [])))))))) x = some (.ins T.C_State dx (putF "_stops" (.int 0) (putF "_sets" (.ref l1) (putF "_height" (.int 0) (putF "_sheet" (.ref sh) (putF "_side" (.str sd) (putF "_config" (.ref cf) []))))))) := upd_same
    have kk6 : Kp x (H5) (upd (H5) x (.ins T.C_State dx (putF "_stops" (.int 0) (putF "_sets" (.ref l1) (putF "_height" (.int 0) (putF "_sheet" (.ref sh) (putF "_side" (.str sd) (putF "_config" (.ref cf) [])))))))) := Kp.upd Kp.refl
    have cl1_6 := kk6 _ _ cl1_5 xl1
    have kp6 := Kp.trans kp5 kk6
    generalize (upd (H5) x (.ins T.C_State dx (putF "_stops" (.int 0) (putF "_sets" (.ref l1) (putF "_height" (.int 0) (putF "_sheet" (.ref sh) (putF "_side" (.str sd) (putF "_config" (.ref cf) [])))))))) = H6 at hx6 kk6 kp6 cl1_6 ⊢
    clear kk6
    walk_at "my_rd"
    refine q_fputK hx6 T.cl_State T.n_State_stopped (Nat.lt_of_le_of_lt len6 (by decide)) ?_
    have len7 : ((putF "_stopped" (.bl false) (putF "_stops" (.int 0) (putF "_sets" (.ref l1) (putF "_height" (.int 0) (putF "_sheet" (.ref sh) (putF "_side" (.str sd) (putF "_config" (.ref cf) []))))))) : List (Str × V)).length ≤ 7 := q_fldlen len6
    have hx7 : (upd (H6) x (.ins T.C_State dx (putF "_stopped" (.bl false) (putF "_stops" (.int 0) (putF "_sets" (.ref l1) (putF "_height" (.int 0) (putF "_sheet" (.ref sh) (putF "_side" (.str sd) (putF "_config" (.ref cf) []))))))))) x = some (.ins T.C_State dx (putF "_stopped" (.bl false) (putF "_stops" (.int 0) (putF "_sets" (.ref l1) (putF "_height" (.int 0) (putF "_sheet" (.ref sh) (putF "_side" (.str sd) (putF "_config" (.ref cf) [])))))))) := upd_same
    have kk7 : Kp x (H6) (upd (H6) x (.ins T.C_State dx (putF "_stopped" (.bl false) (putF "_stops" (.int 0) (putF "_sets" (.ref l1) (putF "_height" (.int 0) (putF "_sheet" (.ref sh) (putF "_side" (.str sd) (putF "_config" (.ref cf) []))))))))) := Kp.upd Kp.refl
    have cl1_7 := kk7 _ _ cl1_6 xl1
    have kp7 := Kp.trans kp6 kk7
    generalize (upd (H6) x (.ins T.C_State dx (putF "_stopped" (.bl false) (putF "_stops" (.int 0) (putF "_sets" (.ref l1) (putF "_height" (.int 0) (putF "_sheet" (.ref sh) (putF "_side" (.str sd) (putF "_config" (.ref cf) []))))))))) = H7 at hx7 kk7 kp7 cl1_7 ⊢
    clear kk7
    walk_at "my_rd"
    refine q_lstK (Nat.le_of_ble_eq_true rfl) fun l2 nl2 => ?_
    walk_at "my_rd"
    refine q_fputK (upd_new nl2 hx7) T.cl_State T.n_State_transfers (Nat.lt_of_le_of_lt len7 (by decide)) ?_
    have len8 : ((putF "_transfers" (.ref l2) (putF "_stopped" (.bl false) (putF "_stops" (.int 0) (putF "_sets" (.ref l1) (putF "_height" (.int 0) (putF "_sheet" (.ref sh) (putF "_side" (.str sd) (putF "_config" (.ref cf) [])))))))) : List (Str × V)).length ≤ 8 := q_fldlen len7
    have hx8 : (upd (upd H7 l2 (.lst [])) x (.ins T.C_State dx (putF "_transfers" (.ref l2) (putF "_stopped" (.bl false) (putF "_stops" (.int 0) (putF "_sets" (.ref l1) (putF "_height" (.int 0) (putF "_sheet" (.ref sh) (putF "_side" (.str sd) (putF "_config" (.ref cf) [])))))))))) x = some (.ins T.C_State dx (putF "_transfers" (.ref l2) (putF "_stopped" (.bl false) (putF "_stops" (.int 0) (putF "_sets" (.ref l1) (putF "_height" (.int 0) (putF "_sheet" (.ref sh) (putF "_side" (.str sd) (putF "_config" (.ref cf) []))))))))) := upd_same
    have xl2 : l2 ≠ x := (ne_of_none hx7 nl2).symm
    have zl2 : H l2 = none := Kp.fresh kp7 hh0 nl2 xl2
    have kk8 : Kp x (H7) (upd (upd H7 l2 (.lst [])) x (.ins T.C_State dx (putF "_transfers" (.ref l2) (putF "_stopped" (.bl false) (putF "_stops" (.int 0) (putF "_sets" (.ref l1) (putF "_height" (.int 0) (putF "_sheet" (.ref sh) (putF "_side" (.str sd) (putF "_config" (.ref cf) [])))))))))) := Kp.upd (Kp.new Kp.refl nl2)
    have cl2_8 : (upd (upd H7 l2 (.lst [])) x (.ins T.C_State dx (putF "_transfers" (.ref l2) (putF "_stopped" (.bl false) (putF "_stops" (.int 0) (putF "_sets" (.ref l1) (putF "_height" (.int 0) (putF "_sheet" (.ref sh) (putF "_side" (.str sd) (putF "_config" (.ref cf) [])))))))))) l2 = some (.lst []) := upd_other xl2 upd_same
    have dl1_l2 : l1 ≠ l2 := ne_of_none cl1_7 nl2
    have cl1_8 := kk8 _ _ cl1_7 xl1
    have kp8 := Kp.trans kp7 kk8
    generalize (upd (upd H7 l2 (.lst [])) x (.ins T.C_State dx (putF "_transfers" (.ref l2) (putF "_stopped" (.bl false) (putF "_stops" (.int 0) (putF "_sets" (.ref l1) (putF "_height" (.int 0) (putF "_sheet" (.ref sh) (putF "_side" (.str sd) (putF "_config" (.ref cf) [])))))))))) = H8 at hx8 kk8 kp8 cl1_8 cl2_8 ⊢
    clear kk8
    walk_at "my_rd"
    refine q_dNew fun e1 ne1 => ?_
    walk_at "my_rd"
    refine q_fputK (upd_new ne1 hx8) T.cl_State T.n_State_returned (Nat.lt_of_le_of_lt len8 (by decide)) ?_
    have len9 : ((putF "_returned" (.ref e1) (putF "_transfers" (.ref l2) (putF "_stopped" (.bl false) (putF "_stops" (.int 0) (putF "_sets" (.ref l1) (putF "_height" (.int 0) (putF "_sheet" (.ref sh) (putF "_side" (.str sd) (putF "_config" (.ref cf) []))))))))) : List (Str × V)).length ≤ 9 := q_fldlen len8
    have hx9 : (upd (upd H8 e1 (.dK [])) x (.ins T.C_State dx (putF "_returned" (.ref e1) (putF "_transfers" (.ref l2) (putF "_stopped" (.bl false) (putF "_stops" (.int 0) (putF "_sets" (.ref l1) (putF "_height" (.int 0) (putF "_sheet" (.ref sh) (putF "_side" (.str sd) (putF "_config" (.ref cf) []))))))))))) x = some (.ins T.C_State dx (putF "_returned" (.ref e1) (putF "_transfers" (.ref l2) (putF "_stopped" (.bl false) (putF "_stops" (.int 0) (putF "_sets" (.ref l1) (putF "_height" (.int 0) (putF "_sheet" (.ref sh) (putF "_side" (.str sd) (putF "_config" (.ref cf) [])))))))))) := upd_same
    have xe1 : e1 ≠ x := (ne_of_none hx8 ne1).symm
    have ze1 : H e1 = none := Kp.fresh kp8 hh0 ne1 xe1
    have kk9 : Kp x (H8) (upd (upd H8 e1 (.dK [])) x (.ins T.C_State dx (putF "_returned" (.ref e1) (putF "_transfers" (.ref l2) (putF "_stopped" (.bl false) (putF "_stops" (.int 0) (putF "_sets" (.ref l1) (putF "_height" (.int 0) (putF "_sheet" (.ref sh) (putF "_side" (.str sd) (putF "_config" (.ref cf) []))))))))))) := Kp.upd (Kp.new Kp.refl ne1)
    have ce1_9 : (upd (upd H8 e1 (.dK [])) x (.ins T.C_State dx (putF "_returned" (.ref e1) (putF "_transfers" (.ref l2) (putF "_stopped" (.bl false) (putF "_stops" (.int 0) (putF "_sets" (.ref l1) (putF "_height" (.int 0) (putF "_sheet" (.ref sh) (putF "_side" (.str sd) (putF "_config" (.ref cf) []))))))))))) e1 = some (.dK []) := upd_other xe1 upd_same
    have dl1_e1 : l1 ≠ e1 := ne_of_none cl1_8 ne1
    have dl2_e1 : l2 ≠ e1 := ne_of_none cl2_8 ne1
    have cl1_9 := kk9 _ _ cl1_8 xl1
    have cl2_9 := kk9 _ _ cl2_8 xl2
    have kp9 := Kp.trans kp8 kk9
    generalize (upd (upd H8 e1 (.dK [])) x (.ins T.C_State dx (putF "_returned" (.ref e1) (putF "_transfers" (.ref l2) (putF "_stopped" (.bl false) (putF "_stops" (.int 0) (putF "_sets" (.ref l1) (putF "_height" (.int 0) (putF "_sheet" (.ref sh) (putF "_side" (.str sd) (putF "_config" (.ref cf) []))))))))))) = H9 at hx9 kk9 kp9 cl1_9 cl2_9 ce1_9 ⊢
    clear kk9
    walk_at "my_rd"
    refine q_dNew fun e2 ne2 => ?_
    walk_at "my_rd"
    refine q_fputK (upd_new ne2 hx9) T.cl_State T.n_State_taken (Nat.lt_of_le_of_lt len9 (by decide)) ?_
    have len10 : ((putF "_taken" (.ref e2) (putF "_returned" (.ref e1) (putF "_transfers" (.ref l2) (putF "_stopped" (.bl false) (putF "_stops" (.int 0) (putF "_sets" (.ref l1) (putF "_height" (.int 0) (putF "_sheet" (.ref sh) (putF "_side" (.str sd) (putF "_config" (.ref cf) [])))))))))) : List (Str × V)).length ≤ 10 := q_fldlen len9
    have hx10 : (upd (upd H9 e2 (.dK [])) x (.ins T.C_State dx (putF "_taken" (.ref e2) (putF "_returned" (.ref e1) (putF "_transfers" (.ref l2) (putF "_stopped" (.bl false) (putF "_stops" (.int 0) (putF "_sets" (.ref l1) (putF "_height" (.int 0) (putF "_sheet" (.ref sh) (putF "_side" (.str sd) (putF "_config" (.ref cf) [])))))))))))) x = some (.ins T.C_State dx (putF "_taken" (.ref e2) (putF "_returned" (.ref e1) (putF "_transfers" (.ref l2) (putF "_stopped" (.bl false) (putF "_stops" (.int 0) (putF "_sets" (.ref l1) (putF "_height" (.int 0) (putF "_sheet" (.ref sh) (putF "_side" (.str sd) (putF "_config" (.ref cf) []))))))))))) := upd_same
    have xe2 : e2 ≠ x := (ne_of_none hx9 ne2).symm
    have ze2 : H e2 = none := Kp.fresh kp9 hh0 ne2 xe2
    have kk10 : Kp x (H9) (upd (upd H9 e2 (.dK [])) x (.ins T.C_State dx (putF "_taken" (.ref e2) (putF "_returned" (.ref e1) (putF "_transfers" (.ref l2) (putF "_stopped" (.bl false) (putF "_stops" (.int 0) (putF "_sets" (.ref l1) (putF "_height" (.int 0) (putF "_sheet" (.ref sh) (putF "_side" (.str sd) (putF "_config" (.ref cf) [])))))))))))) := Kp.upd (Kp.new Kp.refl ne2)
    have ce2_10 : (upd (upd H9 e2 (.dK [])) x (.ins T.C_State dx (putF "_taken" (.ref e2) (putF "_returned" (.ref e1) (putF "_transfers" (.ref l2) (putF "_stopped" (.bl false) (putF "_stops" (.int 0) (putF "_sets" (.ref l1) (putF "_height" (.int 0) (putF "_sheet" (.ref sh) (putF "_side" (.str sd) (putF "_config" (.ref cf) [])))))))))))) e2 = some (.dK []) := upd_other xe2 upd_same
    have dl1_e2 : l1 ≠ e2 := ne_of_none cl1_9 ne2
    have dl2_e2 : l2 ≠ e2 := ne_of_none cl2_9 ne2
    have de1_e2 : e1 ≠ e2 := ne_of_none ce1_9 ne2
    have cl1_10 := kk10 _ _ cl1_9 xl1
    have cl2_10 := kk10 _ _ cl2_9 xl2
    have ce1_10 := kk10 _ _ ce1_9 xe1
    have kp10 := Kp.trans kp9 kk10
    generalize (upd (upd H9 e2 (.dK [])) x (.ins T.C_State dx (putF "_taken" (.ref e2) (putF "_returned" (.ref e1) (putF "_transfers" (.ref l2) (putF "_stopped" (.bl false) (putF "_stops" (.int 0) (putF "_sets" (.ref l1) (putF "_height" (.int 0) (putF "_sheet" (.ref sh) (putF "_side" (.str sd) (putF "_config" (.ref cf) [])))))))))))) = H10 at hx10 kk10 kp10 cl1_10 cl2_10 ce1_10 ce2_10 ⊢
    clear kk10
    walk_at "my_rd"
    refine q_dNew fun e3 ne3 => ?_
    walk_at "my_rd"
    refine q_fputK (upd_new ne3 hx10) T.cl_State T.n_State_waiting (Nat.lt_of_le_of_lt len10 (by decide)) ?_
    have len11 : ((putF "_waiting" (.ref e3) (putF "_taken" (.ref e2) (putF "_returned" (.ref e1) (putF "_transfers" (.ref l2) (putF "_stopped" (.bl false) (putF "_stops" (.int 0) (putF "_sets" (.ref l1) (putF "_height" (.int 0) (putF "_sheet" (.ref sh) (putF "_side" (.str sd) (putF "_config" (.ref cf) []))))))))))) : List (Str × V)).length ≤ 11 := q_fldlen len10
    have hx11 : (upd (upd H10 e3 (.dK [])) x (.ins T.C_State dx (putF "_waiting" (.ref e3) (putF "_taken" (.ref e2) (putF "_returned" (.ref e1) (putF "_transfers" (.ref l2) (putF "_stopped" (.bl false) (putF "_stops" (.int 0) (putF "_sets" (.ref l1) (putF "_height" (.int 0) (putF "_sheet" (.ref sh) (putF "_side" (.str sd) (putF "_config" (.ref cf) []))))))))))))) x = some (.ins T.C_State dx (putF "_waiting" (.ref e3) (putF "_taken" (.ref e2) (putF "_returned" (.ref e1) (putF "_transfers" (.ref l2) (putF "_stopped" (.bl false) (putF "_stops" (.int 0) (putF "_sets" (.ref l1) (putF "_height" (.int 0) (putF "_sheet" (.ref sh) (putF "_side" (.str sd) (putF "_config" (.ref cf) [])))))))))))) := upd_same
    have xe3 : e3 ≠ x := (ne_of_none hx10 ne3).symm
    have ze3 : H e3 = none := Kp.fresh kp10 hh0 ne3 xe3
    have kk11 : Kp x (H10) (upd (upd H10 e3 (.dK [])) x (.ins T.C_State dx (putF "_waiting" (.ref e3) (putF "_taken" (.ref e2) (putF "_returned" (.ref e1) (putF "_transfers" (.ref l2) (putF "_stopped" (.bl false) (putF "_stops" (.int 0) (putF "_sets" (.ref l1) (putF "_height" (.int 0) (putF "_sheet" (.ref sh) (putF "_side" (.str sd) (putF "_config" (.ref cf) []))))))))))))) := Kp.upd (Kp.new Kp.refl ne3)
    have ce3_11 : (upd (upd H10 e3 (.dK [])) x (.ins T.C_State dx (putF "_waiting" (.ref e3) (putF "_taken" (.ref e2) (putF "_returned" (.ref e1) (putF "_transfers" (.ref l2) (putF "_stopped" (.bl false) (putF "_stops" (.int 0) (putF "_sets" (.ref l1) (putF "_height" (.int 0) (putF "_sheet" (.ref sh) (putF "_side" (.str sd) (putF "_config" (.ref cf) []))))))))))))) e3 = some (.dK []) := upd_other xe3 upd_same
    have dl1_e3 : l1 ≠ e3 := ne_of_none cl1_10 ne3
    have dl2_e3 : l2 ≠ e3 := ne_of_none cl2_10 ne3
    have de1_e3 : e1 ≠ e3 := ne_of_none ce1_10 ne3
    have de2_e3 : e2 ≠ e3 := ne_of_none ce2_10 ne3
    have cl1_11 := kk11 _ _ cl1_10 xl1
    have cl2_11 := kk11 _ _ cl2_10 xl2
    have ce1_11 := kk11 _ _ ce1_10 xe1
    have ce2_11 := kk11 _ _ ce2_10 xe2
    have kp11 := Kp.trans kp10 kk11
    generalize (upd (upd H10 e3 (.dK [])) x (.ins T.C_State dx (putF "_waiting" (.ref e3) (putF "_taken" (.ref e2) (putF "_returned" (.ref e1) (putF "_transfers" (.ref l2) (putF "_stopped" (.bl false) (putF "_stops" (.int 0) (putF "_sets" (.ref l1) (putF "_height" (.int 0) (putF "_sheet" (.ref sh) (putF "_side" (.str sd) (putF "_config" (.ref cf) []))))))))))))) = H11 at hx11 kk11 kp11 cl1_11 cl2_11 ce1_11 ce2_11 ce3_11 ⊢
    clear kk11
    walk_at "my_rd"
    refine q_lstK (Nat.le_of_ble_eq_true rfl) fun l3 nl3 => ?_
    walk_at "my_rd"
    refine q_fputK (upd_new nl3 hx11) T.cl_State T.n_State_deliveries (Nat.lt_of_le_of_lt len11 (by decide)) ?_
    have len12 : ((putF "_deliveries" (.ref l3) (putF "_waiting" (.ref e3) (putF "_taken" (.ref e2) (putF "_returned" (.ref e1) (putF "_transfers" (.ref l2) (putF "_stopped" (.bl false) (putF "_stops" (.int 0) (putF "_sets" (.ref l1) (putF "_height" (.int 0) (putF "_sheet" (.ref sh) (putF "_side" (.str sd) (putF "_config" (.ref cf) [])))))))))))) : List (Str × V)).length ≤ 12 := q_fldlen len11
    have hx12 : (upd (upd H11 l3 (.lst [])) x (.ins T.C_State dx (putF "_deliveries" (.ref l3) (putF "_waiting" (.ref e3) (putF "_taken" (.ref e2) (putF "_returned" (.ref e1) (putF "_transfers" (.ref l2) (putF "_stopped" (.bl false) (putF "_stops" (.int 0) (putF "_sets" (.ref l1) (putF "_height" (.int 0) (putF "_sheet" (.ref sh) (putF "_side" (.str sd) (putF "_config" (.ref cf) [])))))))))))))) x = some (.ins T.C_State dx (putF "_deliveries" (.ref l3) (putF "_waiting" (.ref e3) (putF "_taken" (.ref e2) (putF "_returned" (.ref e1) (putF "_transfers" (.ref l2) (putF "_stopped" (.bl false) (putF "_stops" (.int 0) (putF "_sets" (.ref l1) (putF "_height" (.int 0) (putF "_sheet" (.ref sh) (putF "_side" (.str sd) (putF "_config" (.ref cf) []))))))))))))) := upd_same
    have xl3 : l3 ≠ x := (ne_of_none hx11 nl3).symm
    have zl3 : H l3 = none := Kp.fresh kp11 hh0 nl3 xl3
    have kk12 : Kp x (H11) (upd (upd H11 l3 (.lst [])) x (.ins T.C_State dx (putF "_deliveries" (.ref l3) (putF "_waiting" (.ref e3) (putF "_taken" (.ref e2) (putF "_returned" (.ref e1) (putF "_transfers" (.ref l2) (putF "_stopped" (.bl false) (putF "_stops" (.int 0) (putF "_sets" (.ref l1) (putF "_height" (.int 0) (putF "_sheet" (.ref sh) (putF "_side" (.str sd) (putF "_config" (.ref cf) [])))))))))))))) := Kp.upd (Kp.new Kp.refl nl3)
    have cl3_12 : (upd (upd H11 l3 (.lst [])) x (.ins T.C_State dx (putF "_deliveries" (.ref l3) (putF "_waiting" (.ref e3) (putF "_taken" (.ref e2) (putF "_returned" (.ref e1) (putF "_transfers" (.ref l2) (putF "_stopped" (.bl false) (putF "_stops" (.int 0) (putF "_sets" (.ref l1) (putF "_height" (.int 0) (putF "_sheet" (.ref sh) (putF "_side" (.str sd) (putF "_config" (.ref cf) [])))))))))))))) l3 = some (.lst []) := upd_other xl3 upd_same
    have dl1_l3 : l1 ≠ l3 := ne_of_none cl1_11 nl3
    have dl2_l3 : l2 ≠ l3 := ne_of_none cl2_11 nl3
    have de1_l3 : e1 ≠ l3 := ne_of_none ce1_11 nl3
    have de2_l3 : e2 ≠ l3 := ne_of_none ce2_11 nl3
    have de3_l3 : e3 ≠ l3 := ne_of_none ce3_11 nl3
    have cl1_12 := kk12 _ _ cl1_11 xl1
    have cl2_12 := kk12 _ _ cl2_11 xl2
    have ce1_12 := kk12 _ _ ce1_11 xe1
    have ce2_12 := kk12 _ _ ce2_11 xe2
    have ce3_12 := kk12 _ _ ce3_11 xe3
    have kp12 := Kp.trans kp11 kk12
    generalize (upd (upd H11 l3 (.lst [])) x (.ins T.C_State dx (putF "_deliveries" (.ref l3) (putF "_waiting" (.ref e3) (putF "_taken" (.ref e2) (putF "_returned" (.ref e1) (putF "_transfers" (.ref l2) (putF "_stopped" (.bl false) (putF "_stops" (.int 0) (putF "_sets" (.ref l1) (putF "_height" (.int 0) (putF "_sheet" (.ref sh) (putF "_side" (.str sd) (putF "_config" (.ref cf) [])))))))))))))) = H12 at hx12 kk12 kp12 cl1_12 cl2_12 ce1_12 ce2_12 ce3_12 cl3_12 ⊢
    clear kk12
    walk_at "my_rd"
    refine k H12 l1 l2 l3 e1 e2 e3 ⟨⟨dx, _, hx12, ?_, ?_, ?_, ?_, ?_, ?_, ?_, ?_, ?_, ?_, ?_, ?_, ?_, by omega⟩, cl1_12, cl2_12, cl3_12, ce1_12, ce2_12, ce3_12, ⟨dl1_l2, dl1_l3, dl2_l3⟩, ⟨de1_e2, de1_e3, de2_e3⟩⟩ ?_ kp12
    · (repeat first | rfl | rw [lookup_putF, if_pos rfl] | rw [lookup_putF, if_neg (by decide +kernel)])
    · (repeat first | rfl | rw [lookup_putF, if_pos rfl] | rw [lookup_putF, if_neg (by decide +kernel)])
    · (repeat first | rfl | rw [lookup_putF, if_pos rfl] | rw [lookup_putF, if_neg (by decide +kernel)])
    · (repeat first | rfl | rw [lookup_putF, if_pos rfl] | rw [lookup_putF, if_neg (by decide +kernel)])
    · (repeat first | rfl | rw [lookup_putF, if_pos rfl] | rw [lookup_putF, if_neg (by decide +kernel)])
    · (repeat first | rfl | rw [lookup_putF, if_pos rfl] | rw [lookup_putF, if_neg (by decide +kernel)])
    · (repeat first | rfl | rw [lookup_putF, if_pos rfl] | rw [lookup_putF, if_neg (by decide +kernel)])
    · (repeat first | rfl | rw [lookup_putF, if_pos rfl] | rw [lookup_putF, if_neg (by decide +kernel)])
    · (repeat first | rfl | rw [lookup_putF, if_pos rfl] | rw [lookup_putF, if_neg (by decide +kernel)])
    · (repeat first | rfl | rw [lookup_putF, if_pos rfl] | rw [lookup_putF, if_neg (by decide +kernel)])
    · (repeat first | rfl | rw [lookup_putF, if_pos rfl] | rw [lookup_putF, if_neg (by decide +kernel)])
    · (repeat first | rfl | rw [lookup_putF, if_pos rfl] | rw [lookup_putF, if_neg (by decide +kernel)])
    · intro m hm
      have hne : ∀ z ∈ stNames, ¬ m = z := fun z hz e => hm (e ▸ hz)
      rw [lookup_putF, if_neg (hne _ (by decide +kernel)), lookup_putF, if_neg (hne _ (by decide +kernel)), lookup_putF, if_neg (hne _ (by decide +kernel)), lookup_putF, if_neg (hne _ (by decide +kernel)), lookup_putF, if_neg (hne _ (by decide +kernel)), lookup_putF, if_neg (hne _ (by decide +kernel)), lookup_putF, if_neg (hne _ (by decide +kernel)), lookup_putF, if_neg (hne _ (by decide +kernel)), lookup_putF, if_neg (hne _ (by decide +kernel)), lookup_putF, if_neg (hne _ (by decide +kernel)), lookup_putF, if_neg (hne _ (by decide +kernel)), lookup_putF, if_neg (hne _ (by decide +kernel))]
      rfl
    · intro b hb
      simp only [List.mem_cons, List.not_mem_nil, or_false] at hb
      rcases hb with rfl | rfl | rfl | rfl | rfl | rfl <;> assumption
theorem ok_State_copy (T : Txt K mg) : FnOk P w K mg base CX0 7 T.f_State_copy T.d_State_copy ["self"] (sp_stC T.C_State T.C_Sheet T.C_Config) := by
  refine T.F_State_copy.ok sc_State_copy (fun vs H Q E h => ?_) (fun cdv A outer s H vs Q E hr h => ?_)
  · obtain ⟨x, g, M, c, rfl, _⟩ := h; rfl
  · obtain ⟨x, g, M, c, rfl, hM, hC, hc, hG, k⟩ := h
    obtain ⟨dx, fs, h0, h1, h2, h3, h4, h5, h6, h7, h8, h9, h10, h11, h12, h13, h14⟩ := hM.r.ex
    obtain ⟨dS, fS, s0, _, _, _, _, _, s6, _⟩ := id hM.sh.ex
    refine ⟨_, (pss_cons (ps_set (i := 1) sc_State_copy.nd rfl (Or.inl rfl) (pe_make T.mk_State (ok_State_init T) (hr.mono (by decide)) (by rfl) T.g_State T.b_State_init .nil pass0 (pa_cons (pe_fld (pv 0) rfl) (pa_cons (pe_fld (pv 0) rfl) (pa_cons (pe_meth0 (pe_fld (pv 0) rfl) T.cl_Sheet T.m_Sheet_copy (ok_Sheet_copy T) (hr.mono (by decide)) T.b_Sheet_copy .nil pass0) pa_nil)))))
      (pss_cons (ps_fld (pv 1) (pe_fld (pv 0) rfl) rfl)
      (pss_cons (ps_fld (pv 1) (pe_callTy cq_listOf (by rfl) T.z_list boot_list (pa_cons (pe_fld (pv 0) rfl) pa_nil)) rfl)
      (pss_cons (ps_fld (pv 1) (pe_fld (pv 0) rfl) rfl)
      (pss_cons (ps_fld (pv 1) (pe_fld (pv 0) rfl) rfl)
      (pss_cons (ps_fld (pv 1) (pe_callTy cq_listOf (by rfl) T.z_list boot_list (pa_cons (pe_fld (pv 0) rfl) pa_nil)) rfl)
      (pss_cons (ps_fld (pv 1) (pe_callTy call_dictD (by rfl) T.z_dict boot_dict (pa_cons (pe_fld (pv 0) rfl) pa_nil)) rfl)
      (pss_cons (ps_fld (pv 1) (pe_callTy call_dictD (by rfl) T.z_dict boot_dict (pa_cons (pe_fld (pv 0) rfl) pa_nil)) rfl)
      (pss_cons (ps_fld (pv 1) (pe_callTy call_dictD (by rfl) T.z_dict boot_dict (pa_cons (pe_fld (pv 0) rfl) pa_nil)) rfl)
      (pss_cons (ps_fld (pv 1) (pe_callTy cq_listOf (by rfl) T.z_list boot_list (pa_cons (pe_fld (pv 0) rfl) pa_nil)) rfl)
      (pss_one (ps_ret (pv 1))))))))))))), ?_⟩
    (dsimp only [cxOf, Cx.nox, Cx.wish, L2.start, List.map, List.length, List.replicate, List.cons_append, List.nil_append, List.append_eq, Nat.reduceSub, Nat.reduceAdd])
    walk_at "my_rd"
    refine q_fldK h0 T.cl_State T.n_State_config h1 ?_
    walk_at "my_rd"
    refine q_fldK h0 T.cl_State T.n_State_side h2 ?_
    walk_at "my_rd"
    refine q_fldK h0 T.cl_State T.n_State_sheet h3 ?_
    walk_at "my_rd"
    refine q_methK s0 (s6 _ no_st.2.2.1) fun R hR => ?_
    walk_at "my_rd"
    refine hR _ _ ⟨M.sh, g, M.S, c, rfl, hM.sh, by rw [hM.cf]; exact hC, hc, hG.b, hG.d, hG.nb, hG.nd, fun sh Ha S' nsh hS' q1 q2 q3 q4 q5 hf sma => ?_⟩
    clear hR
    walk_at "my_rd"
    intro y dy ny ndy hne
    have ny0 : H y = none := Same.free sma ny
    have smM : Same Ha (upd (upd Ha dy (.own y)) y (.ins T.C_State dy [])) := Same.up (Same.up (Same.refl _) ndy) (upd_free hne.symm ny)
    refine ⟨y, dy, M.cf, g, sh, c, M.side, S', rfl, upd_same, (hC.same sma).same smM, fun H0 l1 l2 l3 e1 e2 e3 hR0 hfr kpI => ⟨rfl, ?_⟩⟩
    obtain ⟨dz, gs, hx0, g1, g2, g3, g4, g5, g6, g7, g8, g9, g10, g11, g12, g13, g14⟩ := hR0.ex
    have nsy : sh ≠ y := by
      obtain ⟨_, _, q, _⟩ := hS'.ex
      exact ne_of_none q ny
    have foot0 : ∀ b ∈ S'.foot, b ≠ y := fun b hb => by
      obtain ⟨_, q⟩ := hS'.footK hb
      exact ne_of_none q ny
    have hS0 : ShAt T.C_Sheet H0 sh S' := hS'.keep (fun o q => kpI _ _ (smM _ _ q) nsy) (fun b hb o q => kpI _ _ (smM _ _ q) (foot0 b hb))
    have sm0 : Same H H0 := fun b o q => kpI b o (smM _ _ (sma _ _ q)) (ne_of_none (sma _ _ q) ny)
    have kp0 : Kp y H0 H0 := Kp.refl
    have sf0 : ∀ b, H0 b = none → b ∉ S'.foot := fun b q m => by
      obtain ⟨_, z⟩ := hS0.footK m
      rw [q] at z; cases z
    have fresh0 : ∀ b, H0 b = none → H b = none := fun b q => Same.free sm0 q
    clear hfr kpI smM hS' sma
    walk_at "my_rd"
    refine q_fldK (sm0 _ _ h0) T.cl_State T.n_State_height h4 ?_
    walk_at "my_rd"
    have len0 : gs.length ≤ 22 := g14
    refine q_fputK hx0 T.cl_State T.n_State_height (Nat.lt_of_le_of_lt len0 (by decide)) ?_
    have len1 : ((putF "_height" (.int M.height) gs) : List (Str × V)).length ≤ 22 := by rw [putF_len (by exact g4)]; exact len0
    have hx1 : (upd (H0) y (.ins T.C_State dz (putF "_height" (.int M.height) gs))) y = some (.ins T.C_State dz (putF "_height" (.int M.height) gs)) := upd_same
    have kk1 : Kp y (H0) (upd (H0) y (.ins T.C_State dz (putF "_height" (.int M.height) gs))) := Kp.upd Kp.refl
    have kp1 := Kp.trans kp0 kk1
    generalize (upd (H0) y (.ins T.C_State dz (putF "_height" (.int M.height) gs))) = H1 at hx1 kk1 kp1 ⊢
    clear kk1
    have sm1 : Same H H1 := fun b o q => kp1 _ _ (sm0 _ _ q) (ne_of_none q ny0)
    walk_at "my_rd"
    refine q_fldK (sm1 _ _ h0) T.cl_State T.n_State_sets h5 ?_
    walk_at "my_rd"
    refine q_listL (sqL (sm1 _ _ hM.r.a1)) fun nl1 nnl1 => ?_
    walk_at "my_rd"
    refine q_fputK (upd_new nnl1 hx1) T.cl_State T.n_State_sets (Nat.lt_of_le_of_lt len1 (by decide)) ?_
    have len2 : ((putF "_sets" (.ref nl1) (putF "_height" (.int M.height) gs)) : List (Str × V)).length ≤ 22 := by rw [putF_len (by rw [lookup_putF, if_neg (by decide +kernel)]; exact g5)]; exact len1
    have hx2 : (upd (upd H1 nl1 (.lst M.sets)) y (.ins T.C_State dz (putF "_sets" (.ref nl1) (putF "_height" (.int M.height) gs)))) y = some (.ins T.C_State dz (putF "_sets" (.ref nl1) (putF "_height" (.int M.height) gs))) := upd_same
    have xnl1 : nl1 ≠ y := (ne_of_none hx1 nnl1).symm
    have wnl1 : H0 nl1 = none := Kp.fresh kp1 hx0 nnl1 xnl1
    have kk2 : Kp y (H1) (upd (upd H1 nl1 (.lst M.sets)) y (.ins T.C_State dz (putF "_sets" (.ref nl1) (putF "_height" (.int M.height) gs)))) := Kp.upd (Kp.new Kp.refl nnl1)
    have cnl1_2 : (upd (upd H1 nl1 (.lst M.sets)) y (.ins T.C_State dz (putF "_sets" (.ref nl1) (putF "_height" (.int M.height) gs)))) nl1 = some (.lst M.sets) := upd_other xnl1 upd_same
    have kp2 := Kp.trans kp1 kk2
    generalize (upd (upd H1 nl1 (.lst M.sets)) y (.ins T.C_State dz (putF "_sets" (.ref nl1) (putF "_height" (.int M.height) gs)))) = H2 at hx2 kk2 kp2 cnl1_2 ⊢
    clear kk2
    have sm2 : Same H H2 := fun b o q => kp2 _ _ (sm0 _ _ q) (ne_of_none q ny0)
    walk_at "my_rd"
    refine q_fldK (sm2 _ _ h0) T.cl_State T.n_State_stops h6 ?_
    walk_at "my_rd"
    refine q_fputK hx2 T.cl_State T.n_State_stops (Nat.lt_of_le_of_lt len2 (by decide)) ?_
    have len3 : ((putF "_stops" (.int M.stops) (putF "_sets" (.ref nl1) (putF "_height" (.int M.height) gs))) : List (Str × V)).length ≤ 22 := by rw [putF_len (by rw [lookup_putF, if_neg (by decide +kernel), lookup_putF, if_neg (by decide +kernel)]; exact g6)]; exact len2
    have hx3 : (upd (H2) y (.ins T.C_State dz (putF "_stops" (.int M.stops) (putF "_sets" (.ref nl1) (putF "_height" (.int M.height) gs))))) y = some (.ins T.C_State dz (putF "_stops" (.int M.stops) (putF "_sets" (.ref nl1) (putF "_height" (.int M.height) gs)))) := upd_same
    have kk3 : Kp y (H2) (upd (H2) y (.ins T.C_State dz (putF "_stops" (.int M.stops) (putF "_sets" (.ref nl1) (putF "_height" (.int M.height) gs))))) := Kp.upd Kp.refl
    have cnl1_3 := kk3 _ _ cnl1_2 xnl1
    have kp3 := Kp.trans kp2 kk3
    generalize (upd (H2) y (.ins T.C_State dz (putF "_stops" (.int M.stops) (putF "_sets" (.ref nl1) (putF "_height" (.int M.height) gs))))) = H3 at hx3 kk3 kp3 cnl1_3 ⊢
    clear kk3
    have sm3 : Same H H3 := fun b o q => kp3 _ _ (sm0 _ _ q) (ne_of_none q ny0)
    walk_at "my_rd"
    refine q_fldK (sm3 _ _ h0) T.cl_State T.n_State_stopped h7 ?_
    walk_at "my_rd"
    refine q_fputK hx3 T.cl_State T.n_State_stopped (Nat.lt_of_le_of_lt len3 (by decide)) ?_
    have len4 : ((putF "_stopped" (.bl M.stopped) (putF "_stops" (.int M.stops) (putF "_sets" (.ref nl1) (putF "_height" (.int M.height) gs)))) : List (Str × V)).length ≤ 22 := by rw [putF_len (by rw [lookup_putF, if_neg (by decide +kernel), lookup_putF, if_neg (by decide +kernel), lookup_putF, if_neg (by decide +kernel)]; exact g7)]; exact len3
    have hx4 : (upd (H3) y (.ins T.C_State dz (putF "_stopped" (.bl M.stopped) (putF "_stops" (.int M.stops) (putF "_sets" (.ref nl1) (putF "_height" (.int M.height) gs)))))) y = some (.ins T.C_State dz (putF "_stopped" (.bl M.stopped) (putF "_stops" (.int M.stops) (putF "_sets" (.ref nl1) (putF "_height" (.int M.height) gs))))) := upd_same
    have kk4 : Kp y (H3) (upd (H3) y (.ins T.C_State dz (putF "_stopped" (.bl M.stopped) (putF "_stops" (.int M.stops) (putF "_sets" (.ref nl1) (putF "_height" (.int M.height) gs)))))) := Kp.upd Kp.refl
    have cnl1_4 := kk4 _ _ cnl1_3 xnl1
    have kp4 := Kp.trans kp3 kk4
    generalize (upd (H3) y (.ins T.C_State dz (putF "_stopped" (.bl M.stopped) (putF "_stops" (.int M.stops) (putF "_sets" (.ref nl1) (putF "_height" (.int M.height) gs)))))) = H4 at hx4 kk4 kp4 cnl1_4 ⊢
    clear kk4
    have sm4 : Same H H4 := fun b o q => kp4 _ _ (sm0 _ _ q) (ne_of_none q ny0)
    walk_at "my_rd"
    refine q_fldK (sm4 _ _ h0) T.cl_State T.n_State_transfers h8 ?_
    walk_at "my_rd"
    refine q_listL (sqL (sm4 _ _ hM.r.a2)) fun nl2 nnl2 => ?_
    walk_at "my_rd"
    refine q_fputK (upd_new nnl2 hx4) T.cl_State T.n_State_transfers (Nat.lt_of_le_of_lt len4 (by decide)) ?_
    have len5 : ((putF "_transfers" (.ref nl2) (putF "_stopped" (.bl M.stopped) (putF "_stops" (.int M.stops) (putF "_sets" (.ref nl1) (putF "_height" (.int M.height) gs))))) : List (Str × V)).length ≤ 22 := by rw [putF_len (by rw [lookup_putF, if_neg (by decide +kernel), lookup_putF, if_neg (by decide +kernel), lookup_putF, if_neg (by decide +kernel), lookup_putF, if_neg (by decide +kernel)]; exact g8)]; exact len4
    have hx5 : (upd (upd H4 nl2 (.lst M.trs)) y (.ins T.C_State dz (putF "_transfers" (.ref nl2) (putF "_stopped" (.bl M.stopped) (putF "_stops" (.int M.stops) (putF "_sets" (.ref nl1) (putF "_height" (.int M.height) gs))))))) y = some (.ins T.C_State dz (putF "_transfers" (.ref nl2) (putF "_stopped" (.bl M.stopped) (putF "_stops" (.int M.stops) (putF "_sets" (.ref nl1) (putF "_height" (.int M.height) gs)))))) := upd_same
    have xnl2 : nl2 ≠ y := (ne_of_none hx4 nnl2).symm
    have wnl2 : H0 nl2 = none := Kp.fresh kp4 hx0 nnl2 xnl2
    have kk5 : Kp y (H4) (upd (upd H4 nl2 (.lst M.trs)) y (.ins T.C_State dz (putF "_transfers" (.ref nl2) (putF "_stopped" (.bl M.stopped) (putF "_stops" (.int M.stops) (putF "_sets" (.ref nl1) (putF "_height" (.int M.height) gs))))))) := Kp.upd (Kp.new Kp.refl nnl2)
    have cnl2_5 : (upd (upd H4 nl2 (.lst M.trs)) y (.ins T.C_State dz (putF "_transfers" (.ref nl2) (putF "_stopped" (.bl M.stopped) (putF "_stops" (.int M.stops) (putF "_sets" (.ref nl1) (putF "_height" (.int M.height) gs))))))) nl2 = some (.lst M.trs) := upd_other xnl2 upd_same
    have dnl1_nl2 : nl1 ≠ nl2 := ne_of_none cnl1_4 nnl2
    have cnl1_5 := kk5 _ _ cnl1_4 xnl1
    have kp5 := Kp.trans kp4 kk5
    generalize (upd (upd H4 nl2 (.lst M.trs)) y (.ins T.C_State dz (putF "_transfers" (.ref nl2) (putF "_stopped" (.bl M.stopped) (putF "_stops" (.int M.stops) (putF "_sets" (.ref nl1) (putF "_height" (.int M.height) gs))))))) = H5 at hx5 kk5 kp5 cnl1_5 cnl2_5 ⊢
    clear kk5
    have sm5 : Same H H5 := fun b o q => kp5 _ _ (sm0 _ _ q) (ne_of_none q ny0)
    walk_at "my_rd"
    refine q_fldK (sm5 _ _ h0) T.cl_State T.n_State_returned h9 ?_
    walk_at "my_rd"
    refine ⟨M.e1, M.ret, rfl, .inl (sm5 _ _ hM.r.b1), fun ne1 nne1 => ?_⟩
    walk_at "my_rd"
    refine q_fputK (upd_new nne1 hx5) T.cl_State T.n_State_returned (Nat.lt_of_le_of_lt len5 (by decide)) ?_
    have len6 : ((putF "_returned" (.ref ne1) (putF "_transfers" (.ref nl2) (putF "_stopped" (.bl M.stopped) (putF "_stops" (.int M.stops) (putF "_sets" (.ref nl1) (putF "_height" (.int M.height) gs)))))) : List (Str × V)).length ≤ 22 := by rw [putF_len (by rw [lookup_putF, if_neg (by decide +kernel), lookup_putF, if_neg (by decide +kernel), lookup_putF, if_neg (by decide +kernel), lookup_putF, if_neg (by decide +kernel), lookup_putF, if_neg (by decide +kernel)]; exact g9)]; exact len5
    have hx6 : (upd (upd H5 ne1 (.dK M.ret)) y (.ins T.C_State dz (putF "_returned" (.ref ne1) (putF "_transfers" (.ref nl2) (putF "_stopped" (.bl M.stopped) (putF "_stops" (.int M.stops) (putF "_sets" (.ref nl1) (putF "_height" (.int M.height) gs)))))))) y = some (.ins T.C_State dz (putF "_returned" (.ref ne1) (putF "_transfers" (.ref nl2) (putF "_stopped" (.bl M.stopped) (putF "_stops" (.int M.stops) (putF "_sets" (.ref nl1) (putF "_height" (.int M.height) gs))))))) := upd_same
    have xne1 : ne1 ≠ y := (ne_of_none hx5 nne1).symm
    have wne1 : H0 ne1 = none := Kp.fresh kp5 hx0 nne1 xne1
    have kk6 : Kp y (H5) (upd (upd H5 ne1 (.dK M.ret)) y (.ins T.C_State dz (putF "_returned" (.ref ne1) (putF "_transfers" (.ref nl2) (putF "_stopped" (.bl M.stopped) (putF "_stops" (.int M.stops) (putF "_sets" (.ref nl1) (putF "_height" (.int M.height) gs)))))))) := Kp.upd (Kp.new Kp.refl nne1)
    have cne1_6 : (upd (upd H5 ne1 (.dK M.ret)) y (.ins T.C_State dz (putF "_returned" (.ref ne1) (putF "_transfers" (.ref nl2) (putF "_stopped" (.bl M.stopped) (putF "_stops" (.int M.stops) (putF "_sets" (.ref nl1) (putF "_height" (.int M.height) gs)))))))) ne1 = some (.dK M.ret) := upd_other xne1 upd_same
    have dnl1_ne1 : nl1 ≠ ne1 := ne_of_none cnl1_5 nne1
    have dnl2_ne1 : nl2 ≠ ne1 := ne_of_none cnl2_5 nne1
    have cnl1_6 := kk6 _ _ cnl1_5 xnl1
    have cnl2_6 := kk6 _ _ cnl2_5 xnl2
    have kp6 := Kp.trans kp5 kk6
    generalize (upd (upd H5 ne1 (.dK M.ret)) y (.ins T.C_State dz (putF "_returned" (.ref ne1) (putF "_transfers" (.ref nl2) (putF "_stopped" (.bl M.stopped) (putF "_stops" (.int M.stops) (putF "_sets" (.ref nl1) (putF "_height" (.int M.height) gs)))))))) = H6 at hx6 kk6 kp6 cnl1_6 cnl2_6 cne1_6 ⊢
    clear kk6
    have sm6 : Same H H6 := fun b o q => kp6 _ _ (sm0 _ _ q) (ne_of_none q ny0)
    walk_at "my_rd"
    refine q_fldK (sm6 _ _ h0) T.cl_State T.n_State_taken h10 ?_
    walk_at "my_rd"
    refine ⟨M.e2, M.tak, rfl, .inl (sm6 _ _ hM.r.b2), fun ne2 nne2 => ?_⟩
    walk_at "my_rd"
    refine q_fputK (upd_new nne2 hx6) T.cl_State T.n_State_taken (Nat.lt_of_le_of_lt len6 (by decide)) ?_
    have len7 : ((putF "_taken" (.ref ne2) (putF "_returned" (.ref ne1) (putF "_transfers" (.ref nl2) (putF "_stopped" (.bl M.stopped) (putF "_stops" (.int M.stops) (putF "_sets" (.ref nl1) (putF "_height" (.int M.height) gs))))))) : List (Str × V)).length ≤ 22 := by rw [putF_len (by rw [lookup_putF, if_neg (by decide +kernel), lookup_putF, if_neg (by decide +kernel), lookup_putF, if_neg (by decide +kernel), lookup_putF, if_neg (by decide +kernel), lookup_putF, if_neg (by decide +kernel), lookup_putF, if_neg (by decide +kernel)]; exact g10)]; exact len6
    have hx7 : (upd (upd H6 ne2 (.dK M.tak)) y (.ins T.C_State dz (putF "_taken" (.ref ne2) (putF "_returned" (.ref ne1) (putF "_transfers" (.ref nl2) (putF "_stopped" (.bl M.stopped) (putF "_stops" (.int M.stops) (putF "_sets" (.ref nl1) (putF "_height" (.int M.height) gs))))))))) y = some (.ins T.C_State dz (putF "_taken" (.ref ne2) (putF "_returned" (.ref ne1) (putF "_transfers" (.ref nl2) (putF "_stopped" (.bl M.stopped) (putF "_stops" (.int M.stops) (putF "_sets" (.ref nl1) (putF "_height" (.int M.height) gs)))))))) := upd_same
    have xne2 : ne2 ≠ y := (ne_of_none hx6 nne2).symm
    have wne2 : H0 ne2 = none := Kp.fresh kp6 hx0 nne2 xne2
    have kk7 : Kp y (H6) (upd (upd H6 ne2 (.dK M.tak)) y (.ins T.C_State dz (putF "_taken" (.ref ne2) (putF "_returned" (.ref ne1) (putF "_transfers" (.ref nl2) (putF "_stopped" (.bl M.stopped) (putF "_stops" (.int M.stops) (putF "_sets" (.ref nl1) (putF "_height" (.int M.height) gs))))))))) := Kp.upd (Kp.new Kp.refl nne2)
    have cne2_7 : (upd (upd H6 ne2 (.dK M.tak)) y (.ins T.C_State dz (putF "_taken" (.ref ne2) (putF "_returned" (.ref ne1) (putF "_transfers" (.ref nl2) (putF "_stopped" (.bl M.stopped) (putF "_stops" (.int M.stops) (putF "_sets" (.ref nl1) (putF "_height" (.int M.height) gs))))))))) ne2 = some (.dK M.tak) := upd_other xne2 upd_same
    have dnl1_ne2 : nl1 ≠ ne2 := ne_of_none cnl1_6 nne2
    have dnl2_ne2 : nl2 ≠ ne2 := ne_of_none cnl2_6 nne2
    have dne1_ne2 : ne1 ≠ ne2 := ne_of_none cne1_6 nne2
    have cnl1_7 := kk7 _ _ cnl1_6 xnl1
    have cnl2_7 := kk7 _ _ cnl2_6 xnl2
    have cne1_7 := kk7 _ _ cne1_6 xne1
    have kp7 := Kp.trans kp6 kk7
    generalize (upd (upd H6 ne2 (.dK M.tak)) y (.ins T.C_State dz (putF "_taken" (.ref ne2) (putF "_returned" (.ref ne1) (putF "_transfers" (.ref nl2) (putF "_stopped" (.bl M.stopped) (putF "_stops" (.int M.stops) (putF "_sets" (.ref nl1) (putF "_height" (.int M.height) gs))))))))) = H7 at hx7 kk7 kp7 cnl1_7 cnl2_7 cne1_7 cne2_7 ⊢
    clear kk7
    have sm7 : Same H H7 := fun b o q => kp7 _ _ (sm0 _ _ q) (ne_of_none q ny0)
    walk_at "my_rd"
    refine q_fldK (sm7 _ _ h0) T.cl_State T.n_State_waiting h11 ?_
    walk_at "my_rd"
    refine ⟨M.e3, M.wai, rfl, .inl (sm7 _ _ hM.r.b3), fun ne3 nne3 => ?_⟩
    walk_at "my_rd"
    refine q_fputK (upd_new nne3 hx7) T.cl_State T.n_State_waiting (Nat.lt_of_le_of_lt len7 (by decide)) ?_
    have len8 : ((putF "_waiting" (.ref ne3) (putF "_taken" (.ref ne2) (putF "_returned" (.ref ne1) (putF "_transfers" (.ref nl2) (putF "_stopped" (.bl M.stopped) (putF "_stops" (.int M.stops) (putF "_sets" (.ref nl1) (putF "_height" (.int M.height) gs)))))))) : List (Str × V)).length ≤ 22 := by rw [putF_len (by rw [lookup_putF, if_neg (by decide +kernel), lookup_putF, if_neg (by decide +kernel), lookup_putF, if_neg (by decide +kernel), lookup_putF, if_neg (by decide +kernel), lookup_putF, if_neg (by decide +kernel), lookup_putF, if_neg (by decide +kernel), lookup_putF, if_neg (by decide +kernel)]; exact g11)]; exact len7
    have hx8 : (upd (upd H7 ne3 (.dK M.wai)) y (.ins T.C_State dz (putF "_waiting" (.ref ne3) (putF "_taken" (.ref ne2) (putF "_returned" (.ref ne1) (putF "_transfers" (.ref nl2) (putF "_stopped" (.bl M.stopped) (putF "_stops" (.int M.stops) (putF "_sets" (.ref nl1) (putF "_height" (.int M.height) gs)))))))))) y = some (.ins T.C_State dz (putF "_waiting" (.ref ne3) (putF "_taken" (.ref ne2) (putF "_returned" (.ref ne1) (putF "_transfers" (.ref nl2) (putF "_stopped" (.bl M.stopped) (putF "_stops" (.int M.stops) (putF "_sets" (.ref nl1) (putF "_height" (.int M.height) gs))))))))) := upd_same
    have xne3 : ne3 ≠ y := (ne_of_none hx7 nne3).symm
    have wne3 : H0 ne3 = none := Kp.fresh kp7 hx0 nne3 xne3
    have kk8 : Kp y (H7) (upd (upd H7 ne3 (.dK M.wai)) y (.ins T.C_State dz (putF "_waiting" (.ref ne3) (putF "_taken" (.ref ne2) (putF "_returned" (.ref ne1) (putF "_transfers" (.ref nl2) (putF "_stopped" (.bl M.stopped) (putF "_stops" (.int M.stops) (putF "_sets" (.ref nl1) (putF "_height" (.int M.height) gs)))))))))) := Kp.upd (Kp.new Kp.refl nne3)
    have cne3_8 : (upd (upd H7 ne3 (.dK M.wai)) y (.ins T.C_State dz (putF "_waiting" (.ref ne3) (putF "_taken" (.ref ne2) (putF "_returned" (.ref ne1) (putF "_transfers" (.ref nl2) (putF "_stopped" (.bl M.stopped) (putF "_stops" (.int M.stops) (putF "_sets" (.ref nl1) (putF "_height" (.int M.height) gs)))))))))) ne3 = some (.dK M.wai) := upd_other xne3 upd_same
    have dnl1_ne3 : nl1 ≠ ne3 := ne_of_none cnl1_7 nne3
    have dnl2_ne3 : nl2 ≠ ne3 := ne_of_none cnl2_7 nne3
    have dne1_ne3 : ne1 ≠ ne3 := ne_of_none cne1_7 nne3
    have dne2_ne3 : ne2 ≠ ne3 := ne_of_none cne2_7 nne3
    have cnl1_8 := kk8 _ _ cnl1_7 xnl1
    have cnl2_8 := kk8 _ _ cnl2_7 xnl2
    have cne1_8 := kk8 _ _ cne1_7 xne1
    have cne2_8 := kk8 _ _ cne2_7 xne2
    have kp8 := Kp.trans kp7 kk8
    generalize (upd (upd H7 ne3 (.dK M.wai)) y (.ins T.C_State dz (putF "_waiting" (.ref ne3) (putF "_taken" (.ref ne2) (putF "_returned" (.ref ne1) (putF "_transfers" (.ref nl2) (putF "_stopped" (.bl M.stopped) (putF "_stops" (.int M.stops) (putF "_sets" (.ref nl1) (putF "_height" (.int M.height) gs)))))))))) = H8 at hx8 kk8 kp8 cnl1_8 cnl2_8 cne1_8 cne2_8 cne3_8 ⊢
    clear kk8
    have sm8 : Same H H8 := fun b o q => kp8 _ _ (sm0 _ _ q) (ne_of_none q ny0)
    walk_at "my_rd"
    refine q_fldK (sm8 _ _ h0) T.cl_State T.n_State_deliveries h12 ?_
    walk_at "my_rd"
    refine q_listL (sqL (sm8 _ _ hM.r.a3)) fun nl3 nnl3 => ?_
    walk_at "my_rd"
    refine q_fputK (upd_new nnl3 hx8) T.cl_State T.n_State_deliveries (Nat.lt_of_le_of_lt len8 (by decide)) ?_
    have len9 : ((putF "_deliveries" (.ref nl3) (putF "_waiting" (.ref ne3) (putF "_taken" (.ref ne2) (putF "_returned" (.ref ne1) (putF "_transfers" (.ref nl2) (putF "_stopped" (.bl M.stopped) (putF "_stops" (.int M.stops) (putF "_sets" (.ref nl1) (putF "_height" (.int M.height) gs))))))))) : List (Str × V)).length ≤ 22 := by rw [putF_len (by rw [lookup_putF, if_neg (by decide +kernel), lookup_putF, if_neg (by decide +kernel), lookup_putF, if_neg (by decide +kernel), lookup_putF, if_neg (by decide +kernel), lookup_putF, if_neg (by decide +kernel), lookup_putF, if_neg (by decide +kernel), lookup_putF, if_neg (by decide +kernel), lookup_putF, if_neg (by decide +kernel)]; exact g12)]; exact len8
    have hx9 : (upd (upd H8 nl3 (.lst M.dels)) y (.ins T.C_State dz (putF "_deliveries" (.ref nl3) (putF "_waiting" (.ref ne3) (putF "_taken" (.ref ne2) (putF "_returned" (.ref ne1) (putF "_transfers" (.ref nl2) (putF "_stopped" (.bl M.stopped) (putF "_stops" (.int M.stops) (putF "_sets" (.ref nl1) (putF "_height" (.int M.height) gs))))))))))) y = some (.ins T.C_State dz (putF "_deliveries" (.ref nl3) (putF "_waiting" (.ref ne3) (putF "_taken" (.ref ne2) (putF "_returned" (.ref ne1) (putF "_transfers" (.ref nl2) (putF "_stopped" (.bl M.stopped) (putF "_stops" (.int M.stops) (putF "_sets" (.ref nl1) (putF "_height" (.int M.height) gs)))))))))) := upd_same
    have xnl3 : nl3 ≠ y := (ne_of_none hx8 nnl3).symm
    have wnl3 : H0 nl3 = none := Kp.fresh kp8 hx0 nnl3 xnl3
    have kk9 : Kp y (H8) (upd (upd H8 nl3 (.lst M.dels)) y (.ins T.C_State dz (putF "_deliveries" (.ref nl3) (putF "_waiting" (.ref ne3) (putF "_taken" (.ref ne2) (putF "_returned" (.ref ne1) (putF "_transfers" (.ref nl2) (putF "_stopped" (.bl M.stopped) (putF "_stops" (.int M.stops) (putF "_sets" (.ref nl1) (putF "_height" (.int M.height) gs))))))))))) := Kp.upd (Kp.new Kp.refl nnl3)
    have cnl3_9 : (upd (upd H8 nl3 (.lst M.dels)) y (.ins T.C_State dz (putF "_deliveries" (.ref nl3) (putF "_waiting" (.ref ne3) (putF "_taken" (.ref ne2) (putF "_returned" (.ref ne1) (putF "_transfers" (.ref nl2) (putF "_stopped" (.bl M.stopped) (putF "_stops" (.int M.stops) (putF "_sets" (.ref nl1) (putF "_height" (.int M.height) gs))))))))))) nl3 = some (.lst M.dels) := upd_other xnl3 upd_same
    have dnl1_nl3 : nl1 ≠ nl3 := ne_of_none cnl1_8 nnl3
    have dnl2_nl3 : nl2 ≠ nl3 := ne_of_none cnl2_8 nnl3
    have dne1_nl3 : ne1 ≠ nl3 := ne_of_none cne1_8 nnl3
    have dne2_nl3 : ne2 ≠ nl3 := ne_of_none cne2_8 nnl3
    have dne3_nl3 : ne3 ≠ nl3 := ne_of_none cne3_8 nnl3
    have cnl1_9 := kk9 _ _ cnl1_8 xnl1
    have cnl2_9 := kk9 _ _ cnl2_8 xnl2
    have cne1_9 := kk9 _ _ cne1_8 xne1
    have cne2_9 := kk9 _ _ cne2_8 xne2
    have cne3_9 := kk9 _ _ cne3_8 xne3
    have kp9 := Kp.trans kp8 kk9
    generalize (upd (upd H8 nl3 (.lst M.dels)) y (.ins T.C_State dz (putF "_deliveries" (.ref nl3) (putF "_waiting" (.ref ne3) (putF "_taken" (.ref ne2) (putF "_returned" (.ref ne1) (putF "_transfers" (.ref nl2) (putF "_stopped" (.bl M.stopped) (putF "_stops" (.int M.stops) (putF "_sets" (.ref nl1) (putF "_height" (.int M.height) gs))))))))))) = H9 at hx9 kk9 kp9 cnl1_9 cnl2_9 cne1_9 cne2_9 cne3_9 cnl3_9 ⊢
    clear kk9
    have sm9 : Same H H9 := fun b o q => kp9 _ _ (sm0 _ _ q) (ne_of_none q ny0)
    walk_at "my_rd"
    have hS9 : ShAt T.C_Sheet H9 sh S' := hS0.keep (fun o q => kp9 _ _ q nsy) (fun b hb o q => kp9 _ _ q (foot0 b hb))
    refine k y H9 ⟨M.cf, M.side, sh, S', M.height, M.stops, M.stopped, nl1, nl2, nl3, ne1, ne2, ne3, M.sets, M.trs, M.dels, M.ret, M.tak, M.wai⟩ ny0 ⟨⟨⟨dz, _, hx9, ?_, ?_, ?_, ?_, ?_, ?_, ?_, ?_, ?_, ?_, ?_, ?_, ?_, len9⟩, cnl1_9, cnl2_9, cnl3_9, cne1_9, cne2_9, cne3_9, ⟨dnl1_nl2, dnl1_nl3, dnl2_nl3⟩, ⟨dne1_ne2, dne1_ne3, dne2_ne3⟩⟩, hS9, q1.trans hM.cf, nsy.symm, fun b hb => ⟨fun (e : b = ne1) => sf0 _ wne1 (e ▸ hb), fun (e : b = ne2) => sf0 _ wne2 (e ▸ hb), fun (e : b = ne3) => sf0 _ wne3 (e ▸ hb)⟩⟩ ⟨rfl, rfl, rfl, rfl, rfl, rfl, rfl, rfl, rfl, rfl, rfl, q2, q3, q4, q5⟩ ?_ sm9
    · rw [lookup_putF, if_neg (by decide +kernel), lookup_putF, if_neg (by decide +kernel), lookup_putF, if_neg (by decide +kernel), lookup_putF, if_neg (by decide +kernel), lookup_putF, if_neg (by decide +kernel), lookup_putF, if_neg (by decide +kernel), lookup_putF, if_neg (by decide +kernel), lookup_putF, if_neg (by decide +kernel), lookup_putF, if_neg (by decide +kernel)]; exact g1
    · rw [lookup_putF, if_neg (by decide +kernel), lookup_putF, if_neg (by decide +kernel), lookup_putF, if_neg (by decide +kernel), lookup_putF, if_neg (by decide +kernel), lookup_putF, if_neg (by decide +kernel), lookup_putF, if_neg (by decide +kernel), lookup_putF, if_neg (by decide +kernel), lookup_putF, if_neg (by decide +kernel), lookup_putF, if_neg (by decide +kernel)]; exact g2
    · rw [lookup_putF, if_neg (by decide +kernel), lookup_putF, if_neg (by decide +kernel), lookup_putF, if_neg (by decide +kernel), lookup_putF, if_neg (by decide +kernel), lookup_putF, if_neg (by decide +kernel), lookup_putF, if_neg (by decide +kernel), lookup_putF, if_neg (by decide +kernel), lookup_putF, if_neg (by decide +kernel), lookup_putF, if_neg (by decide +kernel)]; exact g3
    · (repeat first | rfl | rw [lookup_putF, if_pos rfl] | rw [lookup_putF, if_neg (by decide +kernel)])
    · (repeat first | rfl | rw [lookup_putF, if_pos rfl] | rw [lookup_putF, if_neg (by decide +kernel)])
    · (repeat first | rfl | rw [lookup_putF, if_pos rfl] | rw [lookup_putF, if_neg (by decide +kernel)])
    · (repeat first | rfl | rw [lookup_putF, if_pos rfl] | rw [lookup_putF, if_neg (by decide +kernel)])
    · (repeat first | rfl | rw [lookup_putF, if_pos rfl] | rw [lookup_putF, if_neg (by decide +kernel)])
    · (repeat first | rfl | rw [lookup_putF, if_pos rfl] | rw [lookup_putF, if_neg (by decide +kernel)])
    · (repeat first | rfl | rw [lookup_putF, if_pos rfl] | rw [lookup_putF, if_neg (by decide +kernel)])
    · (repeat first | rfl | rw [lookup_putF, if_pos rfl] | rw [lookup_putF, if_neg (by decide +kernel)])
    · (repeat first | rfl | rw [lookup_putF, if_pos rfl] | rw [lookup_putF, if_neg (by decide +kernel)])
    · intro m hm
      have hne : ∀ z ∈ stNames, ¬ m = z := fun z hz e => hm (e ▸ hz)
      rw [lookup_putF, if_neg (hne _ (by decide +kernel)), lookup_putF, if_neg (hne _ (by decide +kernel)), lookup_putF, if_neg (hne _ (by decide +kernel)), lookup_putF, if_neg (hne _ (by decide +kernel)), lookup_putF, if_neg (hne _ (by decide +kernel)), lookup_putF, if_neg (hne _ (by decide +kernel)), lookup_putF, if_neg (hne _ (by decide +kernel)), lookup_putF, if_neg (hne _ (by decide +kernel)), lookup_putF, if_neg (hne _ (by decide +kernel))]
      exact g13 m hm
    · intro b hb
      rcases all_of hb with e | m | m
      · rw [e]; exact nsh
      · simp only [St0.own, List.mem_cons, List.not_mem_nil, or_false] at m
        rcases m with e | e | e | e | e | e <;> rw [e] <;> exact fresh0 _ (by assumption)
      · exact hf b m
theorem ok_State_rise (T : Txt K mg) : FnOk P w K mg base CX0 1 T.f_State_rise T.d_State_rise ["self"] (sp_stR T.C_State T.C_Sheet) := by
  refine T.F_State_rise.ok sc_State_rise (fun vs H Q E h => ?_) (fun cdv A outer s H vs Q E hr h => ?_)
  · obtain ⟨x, M, rfl, _⟩ := h; rfl
  · obtain ⟨x, M, rfl, hM, k⟩ := h
    obtain ⟨dx, fs, h0, h1, h2, h3, h4, h5, h6, h7, h8, h9, h10, h11, h12, h13, h14⟩ := hM.r.ex
    refine ⟨_, (pss_one (ps_fldaug (pv 0) pe_int in_add)), ?_⟩
    (dsimp only [cxOf, Cx.nox, Cx.wish, L2.start, List.map, List.length, List.replicate, List.cons_append, List.nil_append, List.append_eq, Nat.reduceSub, Nat.reduceAdd])
    walk_at "my_rd"
    refine q_faugK h0 T.cl_State T.n_State_height h4 ?_
    walk_at "my_rd"
    refine q_faugA h0 (by omega) ?_
    walk_at "my_rd"
    have kp : Kp x H (upd H x (.ins T.C_State dx (putF "_height" (.int (M.height + 1)) fs))) := Kp.upd Kp.refl
    have hx : upd H x (.ins T.C_State dx (putF "_height" (.int (M.height + 1)) fs)) x = some (.ins T.C_State dx (putF "_height" (.int (M.height + 1)) fs)) := upd_same
    generalize upd H x (.ins T.C_State dx (putF "_height" (.int (M.height + 1)) fs)) = H1 at kp hx ⊢
    have nf : ∀ b ∈ M.S.foot, b ≠ x := fun b hb => by
      obtain ⟨_, q⟩ := hM.sh.footK hb
      exact ne_of q h0 (by intro z; cases z)
    refine k H1 ⟨⟨⟨dx, _, hx, ?_, ?_, ?_, ?_, ?_, ?_, ?_, ?_, ?_, ?_, ?_, ?_, ?_, ?_⟩, kp _ _ hM.r.a1 (ne_of hM.r.a1 h0 (by intro z; cases z)), kp _ _ hM.r.a2 (ne_of hM.r.a2 h0 (by intro z; cases z)), kp _ _ hM.r.a3 (ne_of hM.r.a3 h0 (by intro z; cases z)), kp _ _ hM.r.b1 (ne_of hM.r.b1 h0 (by intro z; cases z)), kp _ _ hM.r.b2 (ne_of hM.r.b2 h0 (by intro z; cases z)), kp _ _ hM.r.b3 (ne_of hM.r.b3 h0 (by intro z; cases z)), hM.r.s1, hM.r.s2⟩, hM.sh.keep (fun o q => kp _ _ q hM.nx.symm) (fun b hb o q => kp _ _ q (nf b hb)), hM.cf, hM.nx, hM.sf⟩ kp
    · rw [lookup_putF, if_neg (by decide +kernel)]; exact h1
    · rw [lookup_putF, if_neg (by decide +kernel)]; exact h2
    · rw [lookup_putF, if_neg (by decide +kernel)]; exact h3
    · rw [lookup_putF, if_pos rfl]
    · rw [lookup_putF, if_neg (by decide +kernel)]; exact h5
    · rw [lookup_putF, if_neg (by decide +kernel)]; exact h6
    · rw [lookup_putF, if_neg (by decide +kernel)]; exact h7
    · rw [lookup_putF, if_neg (by decide +kernel)]; exact h8
    · rw [lookup_putF, if_neg (by decide +kernel)]; exact h9
    · rw [lookup_putF, if_neg (by decide +kernel)]; exact h10
    · rw [lookup_putF, if_neg (by decide +kernel)]; exact h11
    · rw [lookup_putF, if_neg (by decide +kernel)]; exact h12
    · intro m hm
      have hne : ∀ z ∈ stNames, ¬ m = z := fun z hz e => hm (e ▸ hz)
      rw [lookup_putF, if_neg (hne _ (by decide +kernel))]; exact h13 m hm
    · rw [putF_len h4]; exact h14
theorem ok_opening_state (T : Txt K mg) : FnOk P w K mg base CX0 6 T.f_opening_state T.d_opening_state ["config", "side"] (sp_open T.C_State T.C_Sheet T.C_Config) := by
  refine T.F_opening_state.ok sc_opening_state (fun vs H Q E h => ?_) (fun cdv A outer s H vs Q E hr h => ?_)
  · obtain ⟨cf, g, c, sd, rfl, _⟩ := h; rfl
  · obtain ⟨cf, g, c, sd, rfl, hC, hc, k⟩ := h
    refine ⟨_, (pss_one (ps_ret (pe_make T.mk_State (ok_State_init T) (hr.mono (by decide)) (by rfl) T.g_State T.b_State_init .nil pass0 (pa_cons (pv 0) (pa_cons (pv 1) (pa_cons (pe_make T.mk_Sheet (ok_Sheet_init T) (hr.mono (by decide)) (by rfl) T.g_Sheet T.b_Sheet_init .nil pass0 (pa_cons (pv 0) (pa_cons (pv 1) pa_nil))) pa_nil)))))), ?_⟩
    (dsimp only [cxOf, Cx.nox, Cx.wish, L2.start, List.map, List.length, List.replicate, List.cons_append, List.nil_append, List.append_eq, Nat.reduceSub, Nat.reduceAdd])
    walk_at "my_rd"
    intro z dz nz ndz hnz
    have smM : Same H (upd (upd H dz (.own z)) z (.ins T.C_Sheet dz [])) := Same.up (Same.up (Same.refl _) ndz) (upd_free hnz.symm nz)
    refine ⟨z, dz, cf, g, c, sd, rfl, upd_same, hC.same smM, hc, fun Ha S hS q1 q2 q3 q4 q5 hf kpz => ⟨rfl, ?_⟩⟩
    have sma : Same H Ha := fun b o q => kpz b o (smM _ _ q) (ne_of_none q nz)
    have hf0 : ∀ b ∈ S.foot, H b = none := fun b hb => Same.free smM (hf b hb)
    clear smM kpz hf
    walk_at "my_rd"
    intro y dy ny ndy hne
    have ny0 : H y = none := Same.free sma ny
    have smM : Same Ha (upd (upd Ha dy (.own y)) y (.ins T.C_State dy [])) := Same.up (Same.up (Same.refl _) ndy) (upd_free hne.symm ny)
    have nsy : z ≠ y := by
      obtain ⟨_, _, q, _⟩ := hS.ex
      exact ne_of_none q ny
    have foot0 : ∀ b ∈ S.foot, b ≠ y := fun b hb => by
      obtain ⟨_, q⟩ := hS.footK hb
      exact ne_of_none q ny
    refine ⟨y, dy, cf, g, z, c, sd, S, rfl, upd_same, (hC.same sma).same smM, fun H0 l1 l2 l3 e1 e2 e3 hR0 hfr kpI => ⟨rfl, ?_⟩⟩
    have hS0 : ShAt T.C_Sheet H0 z S := hS.keep (fun o q => kpI _ _ (smM _ _ q) nsy) (fun b hb o q => kpI _ _ (smM _ _ q) (foot0 b hb))
    have sm0 : Same H H0 := fun b o q => kpI b o (smM _ _ (sma _ _ q)) (ne_of_none (sma _ _ q) ny)
    have fr2 : ∀ b ∈ [l1, l2, l3, e1, e2, e3], Ha b = none := fun b hb => Same.free smM (hfr b hb)
    have sf0 : ∀ b ∈ [l1, l2, l3, e1, e2, e3], b ∉ S.foot := fun b hb m => by
      obtain ⟨_, q⟩ := hS.footK m
      rw [fr2 b hb] at q; cases q
    refine k y H0 ⟨cf, sd, z, S, 0, 0, false, l1, l2, l3, e1, e2, e3, [.ref g], [], [], [], [], []⟩ ny0 ⟨hR0, hS0, q1, nsy.symm, fun b hb => ⟨fun e => sf0 _ (by simp) (e ▸ hb), fun e => sf0 _ (by simp) (e ▸ hb), fun e => sf0 _ (by simp) (e ▸ hb)⟩⟩ ⟨rfl, rfl, rfl, rfl, rfl, rfl, rfl, rfl, rfl, rfl, rfl, q2, q3, q4, q5⟩ (fun b hb => ?_) sm0
    rcases all_of hb with e | m | m
    · rw [e]; exact nz
    · exact Same.free sma (fr2 b m)
    · exact hf0 b m
end

/-! a state's sheet -/
def sp_stGet (C Cs : Addr) (f : St0 → V) : Sp := fun vs H Q _ => ∃ (x : Addr) (M : St0), vs = [.ref x] ∧ StAt C Cs H x M ∧ Q (f M) H
section
variable {P : Program} {w : World} {K : PySem.W.Frag} {mg : Str → Option Value} {base : Heap}
theorem ok_State_sheet (T : Txt K mg) : FnOk P w K mg base CX0 1 T.f_State_sheet T.d_State_sheet ["self"] (sp_stGet T.C_State T.C_Sheet fun M => .ref M.sh) := by
  refine T.F_State_sheet.ok sc_State_sheet (fun vs H Q E h => ?_) (fun cdv A outer s H vs Q E hr h => ?_)
  · obtain ⟨x, M, rfl, _⟩ := h; rfl
  · obtain ⟨x, M, rfl, hM, k⟩ := h
    obtain ⟨dx, fs, h0, g1, g2, g3, g4, g5, g6, g7, g8, g9, g10, g11, g12, hno, hln⟩ := id hM.r.ex
    refine ⟨_, (pss_one (ps_ret (pe_fld (pv 0) rfl))), ?_⟩
    (dsimp only [cxOf, Cx.nox, Cx.wish, L2.start, List.map, List.length, List.replicate, List.cons_append, List.nil_append, List.append_eq, Nat.reduceSub, Nat.reduceAdd])
    walk_at "my_rd"
    refine q_fldK h0 T.cl_State T.n_State_sheet g3 ?_
    walk_at "my_rd"
    exact k
end

local macro_rules | `(tactic| walk_at "my_rd") => `(tactic| (repeat first
  | with_reducible refine q_tCons ?_
  | ((with_reducible apply q_var); (focus (exact rfl)))
  | with_reducible refine q_c ?_
  | ((with_reducible apply q_nxE); (focus (with_reducible exact rfl)))
  | with_reducible refine q_bK ?_
  | with_reducible refine q_call ?_
  | with_reducible refine q_callK ?_
  | with_reducible refine q_tNil ?_
  | with_reducible refine q_cb ?_
  | with_reducible refine q_seq ?_
  | with_reducible refine q_asg ?_
  | with_reducible refine q_gName ?_
  | with_reducible refine q_op ?_
  | with_reducible refine q_test ?_
  | with_reducible refine q_tB ?_
  | with_reducible refine q_ifS ?_
  | with_reducible refine q_ret ?_
  | ((with_reducible apply q_rtE); (focus (with_reducible exact rfl)))
  | with_reducible refine q_next ?_
  | with_reducible refine q_ifF ?_
  | with_reducible refine q_ifT ?_
  | with_reducible refine q_drop ?_
  | with_reducible refine q_and ?_
  | with_reducible refine q_or ?_
  | with_reducible refine q_andT ?_
  | with_reducible refine q_andF ?_
  | with_reducible refine q_orF ?_
  | with_reducible refine q_orT ?_
  | with_reducible refine q_andV ?_
  | with_reducible refine q_andVT ?_
  | with_reducible refine q_andVF ?_
  | with_reducible refine q_orV ?_
  | with_reducible refine q_gCons ?_
  | with_reducible refine q_gNil ?_
  | with_reducible refine q_tup ?_
  | with_reducible refine q_lst ?_
  | with_reducible refine q_not ?_
  | with_reducible refine q_notKT ?_
  | with_reducible refine q_notKF ?_
  | with_reducible refine q_I0 ?_
  | with_reducible refine q_eqI ?_
  | with_reducible refine q_neI ?_
  | ((with_reducible refine q_I ?_ ?_); first | decide | omega | exact ⟨by omega, by omega⟩ | exact ⟨by decide, by decide⟩ | exact .inl ⟨by omega, by omega⟩ | exact .inr ⟨by omega, by omega⟩ | exact .inr ⟨by decide, by decide⟩)
  | with_reducible refine q_eqS ?_
  | with_reducible refine q_neS ?_
  | with_reducible refine q_brk ?_
  | with_reducible refine q_ct ?_
  | ((with_reducible apply q_bkE); (focus (with_reducible exact rfl)))
  | ((with_reducible apply q_cnE); (focus (with_reducible exact rfl)))
  | with_reducible refine q_retN ?_
  | with_reducible refine q_gSub ?_
  | with_reducible refine q_for ?_
  | with_reducible refine q_iList ?_
  | with_reducible refine q_iTup ?_
  | with_reducible refine q_iRng1 ?_
  | with_reducible refine q_notK ?_
  | with_reducible refine q_orVT ?_
  | with_reducible refine q_orVF ?_
  | with_reducible refine q_notV ?_
  | with_reducible refine q_notVK ?_
  | with_reducible refine q_ifE ?_
  | with_reducible refine q_ifET ?_
  | with_reducible refine q_ifEF ?_
  | with_reducible refine q_yes ?_
  | with_reducible refine q_un ?_
  | with_reducible refine q_rU ?_
  | with_reducible refine q_abs ?_
  | with_reducible refine q_int1 ?_
  | with_reducible refine q_bm ?_
  | with_reducible refine q_bm0 ?_
  | with_reducible refine q_lc ?_
  | with_reducible refine q_keepT ?_
  | with_reducible refine q_keepF ?_
  | ((with_reducible apply q_aug); (focus (exact rfl)))
  | with_reducible refine q_ipI ?_
  | with_reducible refine q_chain ?_
  | with_reducible refine q_pairC ?_
  | with_reducible refine q_pairsK ?_
  | with_reducible refine q_pairN ?_
  | with_reducible refine q_fld ?_
  | with_reducible refine q_sFld ?_
  | with_reducible refine q_meth ?_
  | with_reducible refine q_makeK ?_
  | with_reducible refine q_isBl ?_
  | with_reducible refine q_notBl ?_
  | with_reducible refine q_sl ?_
  | with_reducible refine q_noPart ?_
  | with_reducible refine q_part ?_
  | with_reducible refine q_partK ?_
  | ((with_reducible apply q_mulStr); (focus (decide +kernel)))
  | with_reducible refine q_chT ?_
  | with_reducible refine q_chF ?_
  | with_reducible refine q_ord ?_
  | with_reducible refine q_iStr0 ?_
  | with_reducible refine q_iStr ?_
  | with_reducible refine q_tDIn ?_
  | with_reducible refine q_tDNotIn ?_
  | with_reducible refine q_tDGet ?_
  | with_reducible refine q_tDGet2 ?_
  | with_reducible refine q_tDGet1 ?_
  | with_reducible refine q_tDSetd ?_
  | ((with_reducible apply q_dG2a); (focus ((repeat first | (with_reducible exact upd_same) | (with_reducible assumption) | (with_reducible apply upd_new (by assumption)) | (with_reducible apply upd_other (by first | assumption | exact Ne.symm (by assumption))) | (with_reducible refine' Kp.get (by assumption) ?_ (by first | assumption | exact Ne.symm (by assumption))) | (with_reducible apply Same.get (by assumption))); done)))
  | ((with_reducible apply q_dSda); (focus ((repeat first | (with_reducible exact upd_same) | (with_reducible assumption) | (with_reducible apply upd_new (by assumption)) | (with_reducible apply upd_other (by first | assumption | exact Ne.symm (by assumption))) | (with_reducible refine' Kp.get (by assumption) ?_ (by first | assumption | exact Ne.symm (by assumption))) | (with_reducible apply Same.get (by assumption))); done)))
  | with_reducible refine q_sDPut ?_
  | ((with_reducible apply q_dInS); (focus ((repeat first | (with_reducible exact upd_same) | (with_reducible assumption) | (with_reducible apply upd_new (by assumption)) | (with_reducible apply upd_other (by first | assumption | exact Ne.symm (by assumption))) | (with_reducible refine' Kp.get (by assumption) ?_ (by first | assumption | exact Ne.symm (by assumption))) | (with_reducible apply Same.get (by assumption))); done)))
  | ((with_reducible apply q_dNInS); (focus ((repeat first | (with_reducible exact upd_same) | (with_reducible assumption) | (with_reducible apply upd_new (by assumption)) | (with_reducible apply upd_other (by first | assumption | exact Ne.symm (by assumption))) | (with_reducible refine' Kp.get (by assumption) ?_ (by first | assumption | exact Ne.symm (by assumption))) | (with_reducible apply Same.get (by assumption))); done)))
  | ((with_reducible apply q_dInI); (focus ((repeat first | (with_reducible exact upd_same) | (with_reducible assumption) | (with_reducible apply upd_new (by assumption)) | (with_reducible apply upd_other (by first | assumption | exact Ne.symm (by assumption))) | (with_reducible refine' Kp.get (by assumption) ?_ (by first | assumption | exact Ne.symm (by assumption))) | (with_reducible apply Same.get (by assumption))); done)))
  | ((with_reducible apply q_dNInI); (focus ((repeat first | (with_reducible exact upd_same) | (with_reducible assumption) | (with_reducible apply upd_new (by assumption)) | (with_reducible apply upd_other (by first | assumption | exact Ne.symm (by assumption))) | (with_reducible refine' Kp.get (by assumption) ?_ (by first | assumption | exact Ne.symm (by assumption))) | (with_reducible apply Same.get (by assumption))); done)))
  | ((with_reducible apply q_bmL); (focus ((repeat first | (with_reducible exact upd_same) | (with_reducible assumption) | (with_reducible apply upd_new (by assumption)) | (with_reducible apply upd_other (by first | assumption | exact Ne.symm (by assumption))) | (with_reducible refine' Kp.get (by assumption) ?_ (by first | assumption | exact Ne.symm (by assumption))) | (with_reducible apply Same.get (by assumption))); done)))
  | ((with_reducible apply q_bmL0); (focus ((repeat first | (with_reducible exact upd_same) | (with_reducible assumption) | (with_reducible apply upd_new (by assumption)) | (with_reducible apply upd_other (by first | assumption | exact Ne.symm (by assumption))) | (with_reducible refine' Kp.get (by assumption) ?_ (by first | assumption | exact Ne.symm (by assumption))) | (with_reducible apply Same.get (by assumption))); done)))
  | ((with_reducible apply q_ixLt); (focus ((repeat first | (with_reducible exact upd_same) | (with_reducible assumption) | (with_reducible apply upd_new (by assumption)) | (with_reducible apply upd_other (by first | assumption | exact Ne.symm (by assumption))) | (with_reducible refine' Kp.get (by assumption) ?_ (by first | assumption | exact Ne.symm (by assumption))) | (with_reducible apply Same.get (by assumption))); done)); (focus (exact rfl)))
  | ((with_reducible apply q_ixTt); (focus ((repeat first | (with_reducible exact upd_same) | (with_reducible assumption) | (with_reducible apply upd_new (by assumption)) | (with_reducible apply upd_other (by first | assumption | exact Ne.symm (by assumption))) | (with_reducible refine' Kp.get (by assumption) ?_ (by first | assumption | exact Ne.symm (by assumption))) | (with_reducible apply Same.get (by assumption))); done)); (focus (exact rfl)))
  | ((with_reducible apply q_lenLt); (focus ((repeat first | (with_reducible exact upd_same) | (with_reducible assumption) | (with_reducible apply upd_new (by assumption)) | (with_reducible apply upd_other (by first | assumption | exact Ne.symm (by assumption))) | (with_reducible refine' Kp.get (by assumption) ?_ (by first | assumption | exact Ne.symm (by assumption))) | (with_reducible apply Same.get (by assumption))); done)))
  | ((with_reducible apply q_lenTt); (focus ((repeat first | (with_reducible exact upd_same) | (with_reducible assumption) | (with_reducible apply upd_new (by assumption)) | (with_reducible apply upd_other (by first | assumption | exact Ne.symm (by assumption))) | (with_reducible refine' Kp.get (by assumption) ?_ (by first | assumption | exact Ne.symm (by assumption))) | (with_reducible apply Same.get (by assumption))); done)))
  | ((with_reducible apply q_append); (focus ((repeat first | (with_reducible exact upd_same) | (with_reducible assumption) | (with_reducible apply upd_new (by assumption)) | (with_reducible apply upd_other (by first | assumption | exact Ne.symm (by assumption))) | (with_reducible refine' Kp.get (by assumption) ?_ (by first | assumption | exact Ne.symm (by assumption))) | (with_reducible apply Same.get (by assumption))); done)); (focus ((first | (exact Nat.lt_of_ble_eq_true rfl) | (simp only [List.length_append, List.length_cons, List.length_nil, List.length_map]; exact small1000 (by omega))))))
  | ((with_reducible apply q_setL); (focus ((repeat first | (with_reducible exact upd_same) | (with_reducible assumption) | (with_reducible apply upd_new (by assumption)) | (with_reducible apply upd_other (by first | assumption | exact Ne.symm (by assumption))) | (with_reducible refine' Kp.get (by assumption) ?_ (by first | assumption | exact Ne.symm (by assumption))) | (with_reducible apply Same.get (by assumption))); done)); (focus (exact rfl)))
  | with_reducible refine q_ifNT ?_
  | with_reducible refine q_ifNF ?_
  | with_reducible refine q_andNT ?_
  | with_reducible refine q_andNF ?_
  | with_reducible refine q_orNT ?_
  | with_reducible refine q_orNF ?_
  | with_reducible refine q_bKNT ?_
  | with_reducible refine q_bKNF ?_
  | with_reducible refine q_tNGet ?_
  | with_reducible refine q_tNIn ?_
  | with_reducible refine q_sNPut ?_
  | with_reducible refine q_sFldAug ?_
  | with_reducible refine q_sDAug ?_
  | with_reducible refine q_sDDel ?_
  | with_reducible refine q_forX ?_
  | with_reducible refine q_tMake ?_
  | ((with_reducible apply q_dG1a); (focus ((repeat first | (with_reducible exact upd_same) | (with_reducible assumption) | (with_reducible apply upd_new (by assumption)) | (with_reducible apply upd_other (by first | assumption | exact Ne.symm (by assumption))) | (with_reducible refine' Kp.get (by assumption) ?_ (by first | assumption | exact Ne.symm (by assumption))) | (with_reducible apply Same.get (by assumption))); done)))))
/-! sorted(xs), xs a list of data -/
def rSortedDt (K : PySem.W.Frag) : List V → Hp → VK → Prop := fun vs H Q => ∃ (a : Addr) (bs : List (V × PyData)), vs = [.ref a] ∧ SqL K H a (bs.map (·.1)) ∧ (∀ b ∈ bs, Dp K H b.1 b.2) ∧ PySem.W.AllAlike (bs.map (·.2)) ∧ PySem.W.Sortable (bs.map (·.2)) ∧ bs.length ≤ 1000 ∧ (∀ b ∈ bs, b.2.depth ≤ 50) ∧
  ∀ p, H p = none → Q (.ref p) (upd H p (.lst ((bs.mergeSort (PySem.W.dataLe false (·.2))).map (·.1))))
theorem each_of_vals : ∀ {bs : List (V × PyData)} {vs : List Value}, Vals (bs.map (·.1)) vs → PySem.W.EachIs (fun v (b : V × PyData) => RelV b.1 v) vs bs
  | [], _, h => by cases h; exact .nil
  | b :: r, _, h => by cases h with | cons h1 h2 => exact .cons h1 (each_of_vals h2)
theorem vals_of_each : ∀ {bs : List (V × PyData)} {vs : List Value}, PySem.W.EachIs (fun v (b : V × PyData) => RelV b.1 v) vs bs → Vals (bs.map (·.1)) vs
  | [], _, h => by cases h; exact .nil
  | b :: r, _, h => by cases h with | cons h1 h2 => exact .cons h1 (vals_of_each h2)
section
variable {X : Cx}
theorem cr_sortedDt (hu : X.A.units + 65 < cLine) : CallR X (.builtin "sorted") (rSortedDt X.K) := by
  intro pins s σ H vs us Q I r h
  obtain ⟨a, bs, rfl, hS, hd, hal, hk, hL, hdp, q⟩ := h
  obtain ⟨u, rfl, rx⟩ := vals1 r
  cases rx
  obtain ⟨its, rv, hl, hz⟩ := I.list hS
  have e := each_of_vals rv
  have er : PySem.W.EachIs (fun v (b : V × PyData) => ∃ as, Reads s.heap v b.2 as) its bs := PySem.W.each_mem e |>.mono fun v b ⟨r1, m⟩ => Dp.reads I b.2 b.1 v (hd b m) r1
  refine PySem.W.sorted_data (enc := fun b : V × PyData => b.2) hl.isList e er hal hk (by rw [sizeLine_eq]; omega) (fun b hb => by have := hdp b hb; omega) fun out ho eo => ?_
  have hV := vals_of_each eo
  obtain ⟨ep, hat⟩ := PyProof.Rows.sortedAll_at s.heap its out.toArray
  have fr : s.heap.objs.size ≤ s.heap.objs.size + 1 := Nat.le_succ _
  refine ⟨.ref (s.heap.objs.size + 1), upd H (s.heap.objs.size + 1) (.lst ((bs.mergeSort (PySem.W.dataLe false (·.2))).map (·.1))), I.laid (t' := s.toks) (fun b o q => PyProof.Rows.sortedAll_old q) fr ?_, rfl, q _ (I.hok.fresh fr)⟩
  exact ⟨by rw [hV.length, ho, sizeLine_eq]; omega, out, ep, hV, hat⟩
end
/-! x < y, alike data -/
def rLtDt (K : PySem.W.Frag) : R2 := fun x y H Q => ∃ d e, Dp K H x d ∧ Dp K H y e ∧ PySem.W.alike d e = true ∧ d ≠ .none ∧ d.depth ≤ 50 ∧ Q (.bl (PySem.W.dataLt d e)) H
section
variable {X : Cx}
theorem op_ltDt (hu : X.A.units + 65 < cLine) : OpR X (compareOp .Lt) (rLtDt X.K) := by
  intro pins s σ H x y v u Q I rx ry h
  obtain ⟨d, e, hd, he, hal, hn, hdp, q⟩ := h
  obtain ⟨as, r1⟩ := Dp.reads I d x v hd rx
  obtain ⟨bs, r2⟩ := Dp.reads I e y u he ry
  have hr := PySem.W.rcLt_alike d e X.A s v u as bs r1 r2 hal hn (by have := Nat.min_le_left d.depth e.depth; omega)
  exact hr _ _ _ _ ⟨.bl _, H, I, rfl, q⟩
end
/-! tuple(xs), the new object known; dict(t) of such a tuple of pairs -/
def rTupF (K : PySem.W.Frag) : List V → Hp → VK → Prop := fun xs H Q => ∃ p ys, xs = [.ref p] ∧ SqL K H p ys ∧ ∀ l (o : Obj), H l = none → o.dict = none → Q (.ref l) (upd H l (.frz o (.tup ys)))
def rDictPT (K : PySem.W.Frag) : List V → Hp → VK → Prop := fun xs H Q => ∃ (a : Addr) (o : Obj) (ps : List Addr) (kvs : List (Key × V)), xs = [.ref a] ∧ H a = some (.frz o (.tup (ps.map V.ref))) ∧ o.dict = none ∧ Paired (fun p kv => SqT K H p [kV kv.1, kv.2]) ps kvs ∧ ∀ p, H p = none → Q (.ref p) (upd H p (.dK (mergeK [] kvs)))
section
variable {X : Cx}
theorem cq_tupF : CallR X (.type "tuple") (rTupF X.K) := by
  intro pins s σ H xs us Q I r h
  obtain ⟨p, ys, rfl, hq, q⟩ := h
  obtain ⟨u, rfl, rx⟩ := vals1 r
  cases rx
  obtain ⟨its, r', pl, hz⟩ := I.list hq
  have hlen := r'.length
  refine call_tuple_list pl.isList (fun h' kp => ?_) (by simp only [List.size_toArray] <;> omega)
  have I1 : Inv X pins σ H { s with heap := h' } := I.kept (t' := s.toks) kp
  have I2 : Inv X pins σ (upd H h'.objs.size (.frz { cls := .type "tuple", data := .seq its.toArray } (.tup ys))) { s with heap := h'.push { cls := .type "tuple", data := .seq its.toArray } } :=
    I1.laid (t' := s.toks) (fun b o e => Heap.get?_push_of_some _ e) (Nat.le_refl _) (show ObjOk X.prog X.w _ _ _ (.frz _ (.tup ys)) from ⟨Heap.get?_push_size _ rfl, hz, its, r', IsTup.new _ _⟩)
  exact ⟨.ref h'.objs.size, _, I2, rfl, q _ _ (I1.hok.fresh (Nat.le_refl _)) rfl⟩
theorem pairs2 {pins : List (Addr × Obj)} {σ : L2.St} {H : Hp} {s : Shared} (I : Inv X pins σ H s) : ∀ {ps : List Addr} {kvs : List (Key × V)}, Paired (fun p kv => SqT X.K H p [kV kv.1, kv.2]) ps kvs →
    ∃ (prs : List (Key × Value)) (pv : List (Value × Value)), KV kvs prs ∧ prs.length = ps.length ∧ pv.length = ps.length ∧ ∀ (j : Nat) k v, pv[j]? = some (k, v) → ∃ (b : Addr) (key : Key), ps[j]? = some b ∧ IsTup s.heap b #[k, v] ∧ prs[j]? = some (key, v) ∧ keyIs key k = true
  | _, _, .nil => ⟨[], [], .nil, rfl, rfl, fun j k v e => by simp at e⟩
  | _, _, .cons (a := p) (b := kv) h t => by
    obtain ⟨prs, pv, r, hl, hl2, hp⟩ := pairs2 I t
    obtain ⟨its, rv, ht, _⟩ := I.tuple h
    obtain ⟨u, y, ei, ru, ry⟩ := vals2 rv
    subst ei
    refine ⟨(kv.1, y) :: prs, (u, y) :: pv, .cons ⟨rfl, ry⟩ r, by rw [List.length_cons, List.length_cons, hl], by rw [List.length_cons, List.length_cons, hl2], fun j k v e => ?_⟩
    cases j with
    | zero =>
      have e := Option.some.inj e
      injection e with e1 e2
      subst e1 e2
      exact ⟨p, kv.1, rfl, ht, rfl, kV_is (P := X.prog) (w := X.w) ru⟩
    | succ j => exact hp j k v (by simpa using e)
theorem cq_dictPT (hcalm : X.calm = true) : CallR X (.type "dict") (rDictPT X.K) := by
  intro pins s σ H xs us Q I r h
  obtain ⟨a, o, ps, kvs, rfl, ha, hdn, hp, q⟩ := h
  obtain ⟨u, rfl, rx⟩ := vals1 r
  cases rx
  obtain ⟨ho, hz, its, rv, o', ho', hc, n, hdat⟩ := I.hok a _ ha
  rw [ho] at ho'
  cases ho'
  have ei := refs_at rv
  subst ei
  obtain ⟨prs, pv, rel, hl, hl2, hpr⟩ := pairs2 I hp
  have hln : prs.length ≤ sizeLine := by rw [hl]; rw [List.length_map] at hz; exact hz
  have hT : ∀ (j : Nat), j < ps.length → (ps.map Value.ref).toArray[j]? = some (.ref (ps.getD j 0)) := fun j hj => by
    rw [List.getElem?_toArray, List.getElem?_map, List.getElem?_eq_getElem hj, List.getD_eq_getElem?_getD, List.getElem?_eq_getElem hj]; rfl
  have Pa := PySem.PairArg.tuple (prog := X.prog) (w := X.w) a (ps.map Value.ref).toArray (fun j => ps.getD j 0) pv
  refine PySem.call_dict_pairs (knd := mixKind X.prog X.w) (kvs := prs) Pa (I.ok.hd hcalm) ⟨⟨o, n, ho, hc, hdn, hdat⟩, by simp [hl2], fun j k v e => ?_⟩ ⟨by rw [hl, hl2], fun j k v e => ?_⟩ (by rw [hl2, ← hl]; exact hln) fun h' tk hd' k => ?_
  · obtain ⟨b, key, e1, e2, e3, e4⟩ := hpr j k v e
    have hj := (List.getElem?_eq_some_iff.mp e1).1
    refine ⟨hT j hj, .inl ?_⟩
    show s.heap.IsTuple (ps.getD j 0) _
    rw [List.getD_eq_getElem?_getD, e1]
    exact e2
  · obtain ⟨b, key, e1, e2, e3, e4⟩ := hpr j k v e
    exact ⟨key, e3, e4⟩
  · have hm : (s.heap.objs.size == sysModules) = false := beq_eq_false_iff_ne.mpr (Nat.ne_of_gt I.big)
    have hlen : (mergeK [] kvs).length ≤ sizeLine := by
      refine Nat.le_trans (length_mergeK kvs []) ?_
      rw [List.length_nil, Nat.zero_add, rel.length]
      exact hln
    exact ⟨.ref s.heap.objs.size, upd H s.heap.objs.size (.dK (mergeK [] kvs)), I.laid (t' := tk) (fun b o e => k b o (by simp) e) (Nat.le_refl _) (show ObjOk X.prog X.w _ _ _ (.dK (mergeK [] kvs)) from ⟨hlen, hm, merged [] prs, KV.merge rel .nil, hd'⟩), rfl, q _ (I.hok.fresh (Nat.le_refl _))⟩
end

/-! sorted(d, key=lambda y: -x[y]), x captured, a dict; d a dict of text keys -/
namespace LamD
open PySem PySem.Spec PySem.Calls PyProof.Rows L2 PySem.W LamX NdefX
section
variable {prog : Program} {w : World} {A : Around} {s : Shared}
/-- the lambda runs: the heap's objects stay -/
theorem lam_run {f c' c l : Addr} {qual x y : Str} {params : Arguments} {scope : Scope} {cl : List (Str × Addr)} {pm ctv : Value} {p1 p2 p3 p4 : Pos} {T id : String} {v : Value} {z : Int}
    (ho : s.heap.get? f = some (PySem.W.kla_obj "<lambda>" qual params (.UnaryOp .USub (.Subscript (.Name x p1) (.Name y p2) p3) p4) scope cl pm c' ctv)) (hcd : s.heap.CodeRec (.ref c') qual)
    (hc : cl.lookup x = some c) (hcell : s.heap.IsCell c (some (.ref l))) (hT : typeLookup (.type T) "__getitem__" = pure (some (.builtin id)))
    (hl : ∀ h tk, (∀ b o, s.heap.get? b = some o → h.get? b = some o) → ({ s with heap := h, toks := tk } : Shared).TypeIs (.ref l) T)
    (hg : ∀ (A' : Around) (h : Heap) (tk : Nat) (Q : Value → Shared → Prop) (E : Value → Shared → Prop), (∀ b o, s.heap.get? b = some o → h.get? b = some o) → (∀ u tk', Q (.int z u) { s with heap := h, toks := tk' }) → wpAny (model prog w) A' (getItem (.ref l) v) Q E { s with heap := h, toks := tk })
    (lim : s.heap.NoLimit) (hd : A.depth < recursionLimit)
    (hbind : bindArgs (PySem.W.kla_fn "<lambda>" qual params (.UnaryOp .USub (.Subscript (.Name x p1) (.Name y p2) p3) p4) scope cl pm (.ref c') ctv) ⟨[v], []⟩ = pure [(y, v)])
    (hk : scope.kind = .function) (hco : scope.isCoroutine = false) (hgen : scope.isGenerator = false) (hcellN : ∀ n ∈ scope.names, n.2 ≠ .cell) (hy : scope.names.lookup y = some .local) (hx : scope.names.lookup x = some .free)
    (d1 : (x == ("__debug__" : Str)) = false) (d2 : (y == ("__debug__" : Str)) = false) (d3 : (x == ("__classdict__" : Str)) = false) :
    wpAny (model prog w) A (call (.ref f) [v]) (PySem.W.KeyPure (.int (-z)) s) (fun _ _ => False) s := by
  refine wpAny_call (PySem.W.kla_callFunE hd ho rfl hco hgen rfl hcd ?_)
  rw [hbind]
  refine wpAny_pure (wpAny_newFunctionEnv hcellN (fun n hn => by rw [List.mem_singleton.mp hn]; exact hy) (fun h₁ hns hsb => ⟨lim.fresh _ hsb, ?_⟩) hk)
  show codeAny _ _ (.expr _ (PySem.W.envX qual scope s.heap.objs.size f (.ref c') cl)) _ _
  have kp : ∀ b o, s.heap.get? b = some o → h₁.get? b = some o := fun b o e => hsb.extBut b o (Nat.ne_of_lt (Heap.lt_size e)) (Heap.get?_push_of_some _ e)
  have hcell1 : h₁.IsCell c (some (.ref l)) := by obtain ⟨o, e1, e2⟩ := hcell; exact ⟨o, kp _ _ e1, e2⟩
  refine PySem.W.kla_codeExpr (wpAny_UnaryOp (wpAny_Subscript_Name hT (wpAny_Name (wpAny_loadName_free hk hx hc hcell1 ?_ d3) d1)))
  refine wpAny_Name (wpAny_loadName_local hk hy hns (v := v) (by show ([(y, v)] : List (Str × Value)).reverse.lookup y = some v; simp [List.lookup]) ⟨hl h₁ _ kp, ?_⟩) d2
  refine hg _ h₁ _ _ _ kp fun u tk' => neg_int ⟨h₁, tk' + 1, rfl, kp, .int _ _⟩
/-- sorted of what is collected, by keywords -/
theorem sorted_collect {x : Value} {kw : List (Str × Value)} {Q : Value → Shared → Prop} {E : Value → Shared → Prop} (ha1 : argsOk "sorted" ⟨[x], kw⟩) (ha2 : ∀ y, argsOk "list.sort" ⟨[.ref y], kw⟩)
    (hc : ∀ E' : Value → Shared → Prop, wpAny (model prog w) A.in1 (collect x) (fun vs s1 => vs.length ≤ sizeLine ∧ ∀ E'' : Value → Shared → Prop, wpAny (model prog w) A.in1.in1 (Builtin.«list.sort» ⟨[.ref s1.heap.objs.size], kw⟩)
      (fun f s' => f = .done (.ret .none) ∧ Q (.ref s1.heap.objs.size) s') E'' { s1 with heap := s1.heap.push (seqObj "list" vs.toArray 0) }) E' s) : wpAny (model prog w) A (call (.builtin "sorted") [x] kw) Q E s := by
  refine call_function_entry_kw kind_sorted plain_sorted entry_sorted ha1 ?_
  unfold Builtin.«sorted»
  refine wpAny_bind (m := checkCount "sorted" 1 1 _) (wpAny_pure ?_)
  refine wpAny_bind (wpAny_mono (hc _) (fun vs s1 hv => ?_) fun _ _ e => e)
  obtain ⟨hL, body⟩ := hv
  refine wpAny_bind (wpAny_newList ?_ hL)
  refine wpAny_bind (wpAny_holding (wpAny_call_entry_kw slot_list_sort ⟨_, Heap.get?_push_size _ rfl, rfl⟩ entry_list_sort ?_ (ha2 _)))
  refine wpAny_mono (body _) (fun f s' hf => ?_) fun _ _ e => e
  obtain ⟨rfl, hq⟩ := hf
  exact ⟨_, rfl, wpAny_pure ⟨_, rfl, hq⟩⟩
end
theorem strs_from : ∀ (acc : List Value) (ks : List Str), acc.length = ks.length → (∀ (j : Nat) v, acc[j]? = some v → ∃ y t, ks[j]? = some y ∧ v = Value.str y t) → PySem.W.EachIs (fun v (y : Str) => ∃ t, v = Value.str y t) acc ks
  | [], [], _, _ => .nil
  | [], _ :: _, h, _ => by cases h
  | _ :: _, [], h, _ => by cases h
  | a :: r, y :: ks, h, hh => by
    obtain ⟨y', t, e1, e2⟩ := hh 0 a rfl
    obtain rfl : y = y' := Option.some.inj e1
    exact .cons ⟨t, e2⟩ (strs_from r ks (by simpa using h) fun j v e => by have := hh (j + 1) v (by simpa using e); simpa using this)
theorem each_strs : ∀ {vs : List Value} {bs : List Str}, PySem.W.EachIs (fun v (y : Str) => ∃ t, v = Value.str y t) vs bs → Vals (bs.map V.str) vs
  | _, _, .nil => .nil
  | _, _, .cons ⟨t, e⟩ r => .cons ⟨t, e⟩ (each_strs r)
def tSortDL (K : PySem.W.Frag) (T : List (Addr × Str)) (j : Nat) (ta : TA) : TE := fun σ H Q => ta σ H fun vs H1 => ∃ (r l : Addr) (kvs kvs2 : List (Key × V)) (ks : List Str) (z : Str → Int), vs = [.ref r] ∧ H1 r = some (.dK kvs) ∧ kvs.map (·.1) = ks.map Sum.inr ∧ ks.length ≤ 1000 ∧ σ[j]? = some (some (.ref l)) ∧ Tabs T H1 ∧ H1 l = some (.dK kvs2) ∧ (∀ y ∈ ks, valV kvs2 (.inr y) = some (.int (z y))) ∧
  ∀ (p : Addr) (H2 : Hp), ExtN H1 H2 → Tabs T H2 → H2 p = none → Q (.ref p) (upd H2 p (.lst ((ks.mergeSort fun a b => decide (-(z a) ≤ -(z b))).map V.str)))
section
variable {X : Cx}
theorem pe_sortDL {T : List (Addr × Str)} {c P : Addr} {e : Expr} {ta : TA} {x y : Str} {j : Nat} {params : Arguments} {scope : Scope} {p0 q1 q2 q3 q4 lpos kpos pos : Pos} (TB : LamX.TabB X.base X.mg c P) (hcode : X.env.code = .ref c) (hm : (P, X.env.qual ++ "<lambda>") ∈ T) (hu : ∀ p ∈ T, p.1 = P → p.2 = X.env.qual ++ "<lambda>")
    (hcalm : X.calm = true) (hr : Room 3 X.A) (hg : Gl X "sorted") (hmg : X.mg "sorted" = none) (ha : PA X [e] ta) (hN : X.N[j]? = some x) (hx : X.env.scope.names.lookup x = some .cell)
    (hdef : defaultsOf params X.env = ([], [])) (hk : scope.kind = .function) (hco : scope.isCoroutine = false) (hgen : scope.isGenerator = false) (hcellN : ∀ n ∈ scope.names, n.2 ≠ .cell) (hy : scope.names.lookup y = some .local) (hx2 : scope.names.lookup x = some .free) (hfr : ∀ n ∈ scope.names, n.2 = .free → n.1 = x)
    (hbind : ∀ (q : Str) (cl : List (Str × Addr)) (pm cv ctv v : Value), bindArgs (PySem.W.kla_fn "<lambda>" q params (.UnaryOp .USub (.Subscript (.Name x q1) (.Name y q2) q3) q4) scope cl pm cv ctv) ⟨[v], []⟩ = pure [(y, v)])
    (d1 : (x == ("__debug__" : Str)) = false) (d2 : (y == ("__debug__" : Str)) = false) (d3 : (x == ("__classdict__" : Str)) = false)
    (hee : backTo pos (starEach [e] X.env) = (false, eval e X.env) :: backTo pos (starEach [] X.env) := by rfl) (hpl : (backTo pos (starEach [e] X.env)).any (·.1) = false := by rfl) :
    PE X (.Call (.Name "sorted" p0) [e] [⟨some "key", .Lambda params (.UnaryOp .USub (.Subscript (.Name x q1) (.Name y q2) q3) q4) scope lpos, kpos⟩] pos) (tSortDL X.K T j ta) := by
  refine ⟨fun pins s σ H Q I h => ?_⟩
  refine wpAny_Call_Name_kw (ld_blt I hg hmg (u := .builtin "sorted") (by rfl) ?_ (by decide) (by decide))
  refine PyProof.Rows.callWith_kw (thn (ha.run pos pins s σ H _ I h) fun us s1 ⟨vs, H1, I1, r1, r, l, kvs, kvs2, ks, z, e2, hrd, hks, hn, hsj, hT, hS, hz, q⟩ => ?_) hee hpl (by rfl) (by rfl)
  subst e2
  obtain rfl := Vals.ref1 r1
  have hfree : ∀ n ∈ scope.names, n.2 = .free → ∃ c, X.env.cells.lookup n.1 = some c := fun n hn e => by
    rw [hfr n hn e]; exact I.ok.has _ (.inl hx)
  show wpAny _ _ (evalAll ((do let v ← eval (.Lambda params (.UnaryOp .USub (.Subscript (.Name x q1) (.Name y q2) q3) q4) scope lpos) X.env; standAt pos; pure v) :: [])) _ _ s1
  refine wpAny_evalAll_cons (wpAny_bind (lam_make2 I1 TB hcode hm hu hT hdef hfree fun f c' pm ctv H2 s2 I2 eN T2 hf hfn hfrs hco2 => wpAny_bind (wpAny_standAt (wpAny_pure (wpAny_evalAll_nil ?_)))))
  show wpAny _ _ (call (.builtin "sorted") [.ref r] [(Str.ofString "key", .ref f)]) _ _ s2
  have hr2 : H2 r = some (.dK kvs) := eN _ _ hrd (fun ps z => by cases z)
  have hS2 : H2 l = some (.dK kvs2) := eN _ _ hS (fun ps z => by cases z)
  -- the captured name's cell
  obtain ⟨m, hns, hlk⟩ := I2.loc
  obtain ⟨u, ru, lk⟩ := hlk j x _ hN hsj (.inr (.inl hx))
  cases ru
  obtain ⟨cx, hcx, hcell⟩ : ∃ cx, X.env.cells.lookup x = some cx ∧ s2.heap.IsCell cx (some (.ref l)) := by
    rcases lk with ⟨hk1, _⟩ | ⟨_, cx, a, b⟩
    · have : X.env.scope.names.lookup x = some .local := hk1
      rw [hx] at this; cases this
    · exact ⟨cx, a, b⟩
  have hclo : (cloFrom X.env.cells scope.names []).lookup x = some cx := clo_has hfree (PySem.mem_of_lookup hx2) hcx
  obtain ⟨zz, lo, vs, rel, dd⟩ := dk_rd I2.hok (Rd.of hr2)
  obtain ⟨ep, hat⟩ := dd.dictAt
  have hkeys : vs.map (·.1) = ks.map Sum.inr := rel.keys.symm.trans hks
  have hl : vs.length = ks.length := by
    have e := congrArg List.length hkeys
    rw [List.length_map, List.length_map] at e
    exact e
  refine sorted_collect (PyProof.Rows.ksk_s1 _ _) (fun _ => PyProof.Rows.ksk_l1 _ _) fun E' => PySem.W.kdu_collect (A := X.A.in1) (PySem.W.kdl_dict (knd := mixKind X.prog X.w) (kvs := vs) (ep := ep) lo) (I2.ok.hd hcalm) hat (by rw [hl, sizeLine_eq]; omega) fun h3 tk3 acc kp3 hacc => ?_
  have hal : acc.toList.length = ks.length := by rw [Array.length_toList, hacc.1, hl]
  have e : PySem.W.EachIs (fun v (y : Str) => ∃ t, v = Value.str y t) acc.toList ks := strs_from _ _ hal fun j v e => by
    obtain ⟨k, x, e1, e2⟩ := hacc.2 j v (by rw [← Array.getElem?_toList]; exact e)
    have e3 : (vs.map (·.1))[j]? = some k := by rw [List.getElem?_map, e1]; all_goals rfl
    rw [hkeys, List.getElem?_map] at e3
    cases e4 : ks[j]? with
    | none => rw [e4] at e3; cases e3
    | some y =>
      rw [e4] at e3
      have e5 : Sum.inr y = k := Option.some.inj e3
      subst e5
      obtain ⟨t, ev⟩ := Value.isStrOf_shape (x := y) (v := v) e2
      exact ⟨y, t, rfl, ev⟩
  refine ⟨by rw [hal, sizeLine_eq]; omega, fun E'' => ?_⟩
  have hlen := e.length
  rw [PyProof.Rows.ksk_t1]
  have old : ∀ {g : Heap}, PySem.W.KeepsBut h3.objs.size (h3.push (seqObj "list" acc.toList.toArray 0)) g → ∀ b o, s2.heap.get? b = some o → g.get? b = some o := fun {g} kp b o q =>
    kp b o (Nat.ne_of_lt (Heap.lt_size (kp3 b o q))) (Heap.get?_push_of_some _ (kp3 b o q))
  have old3 : ∀ {g : Heap}, PySem.W.KeepsBut h3.objs.size (h3.push (seqObj "list" acc.toList.toArray 0)) g → ∀ b o, h3.get? b = some o → g.get? b = some o := fun {g} kp b o q =>
    kp b o (Nat.ne_of_lt (Heap.lt_size q)) (Heap.get?_push_of_some _ q)
  have I3 : Inv X pins σ H2 { s2 with heap := h3, toks := tk3 } := I2.kept kp3
  refine PySem.W.keyH_tree (s := { s2 with heap := h3.push (seqObj "list" acc.toList.toArray 0), toks := tk3 }) (kz := ks.map fun y => PyData.int (-(z y))) (Heap.get?_push_size _ rfl) (by rw [List.length_map]; exact hlen.symm) (by rw [hlen, sizeLine_eq]; omega)
    (fun d hd d' hd' => by obtain ⟨_, _, rfl⟩ := List.mem_map.mp hd; obtain ⟨_, _, rfl⟩ := List.mem_map.mp hd'; rfl) (.inr fun d hd => by obtain ⟨_, _, rfl⟩ := List.mem_map.mp hd; exact ⟨by simp, by simp⟩)
    (fun d hd => by obtain ⟨_, _, rfl⟩ := List.mem_map.mp hd; have := hr.un; show X.A.units + 1 + 1 + _ < _; simp only [PyData.depth]; omega)
    (PySem.W.keyH_turns (s := { s2 with heap := h3.push (seqObj "list" acc.toList.toArray 0), toks := tk3 }) (bs := ks) (k := fun y => PyData.int (-(z y))) e fun v i hv hi g tk kp => ?_) fun h' tk out cc kp hD ko => ⟨rfl, ?_⟩
  · obtain ⟨t, rfl⟩ := hv
    have kg := old kp
    have I5 : Inv X pins σ H2 { s2 with heap := g, toks := tk } := I2.kept kg
    refine lam_run (s := { s2 with heap := g, toks := tk }) (T := "dict") (z := z i) (kg _ _ hf) (codeO_at I5.hok hco2) hclo (by obtain ⟨o, a, b⟩ := hcell; exact ⟨o, kg _ _ a, b⟩) PySem.F.slot_dict_getitem.lookup (fun h4 tk4 k4 => ?_) (fun A' h4 tk4 Q' E3 k4 hq => ?_) ?_ ?_ (hbind _ _ _ _ _ _) hk hco hgen hcellN hy hx2 d1 d2 d3
    · have I6 : Inv X pins σ H2 { s2 with heap := h4, toks := tk4 } := I2.kept fun b o q => k4 b o (kg b o q)
      obtain ⟨_, _, _, _, d6⟩ := dk_rd I6.hok (Rd.of hS2)
      exact d6.typeIs
    · have I6 : Inv X pins σ H2 { s2 with heap := h4, toks := tk4 } := I2.kept fun b o q => k4 b o (kg b o q)
      obtain ⟨_, _, vs6, rel6, d6⟩ := dk_rd I6.hok (Rd.of hS2)
      obtain ⟨w', hw, rw'⟩ := RelO.some_of (v := V.int (z i)) (o := valueAt vs6 (Sum.inr i)) (by rw [← hz i hi]; exact rel6.val (Sum.inr i))
      obtain ⟨t', rfl⟩ := (show ∃ t', w' = Value.int (z i) t' from rw')
      exact wpAny_getItem_of (kV_is (k := Sum.inr i) (show RelV (kV (Sum.inr i)) (.str i t) from ⟨t, rfl⟩)) d6.mapOf hw (hq _ _)
    · exact I5.env0.mod.nolimit.keeps fun b o e => (I5.env0.bs b o e).1
    · have := hr.dp; show X.A.depth < _; omega
  · have kk := old3 kp
    have hlo : out.length = ks.length := by
      have := (ko.length (by rw [List.length_map]; exact hlen.symm)); rw [this, hlen]
    have hE := PySem.W.keyedOut_each (bs := ks) (fun y => PyData.int (-(z y))) ko e
    have hV := each_strs hE
    refine ⟨.ref h3.objs.size, upd H2 h3.objs.size (.lst ((ks.mergeSort fun a b => decide (-(z a) ≤ -(z b))).map V.str)), I3.laid (t' := tk) (h' := h') (fun b o q => kk b o q) (Nat.le_refl _) ?_, rfl, q _ H2 eN T2 (I3.hok.fresh (Nat.le_refl _))⟩
    have hle : PySem.W.dataLe false (fun y : Str => PyData.int (-(z y))) = fun a b => decide (-(z a) ≤ -(z b)) := PySem.W.dataLe_int fun y => -(z y)
    rw [hle] at hV
    exact ⟨by rw [hV.length, hlo, sizeLine_eq]; omega, out, cc, hV, hD⟩
end
end LamD

/-! seats by bonds, pure -/
def nle (a b : Str) : Bool := decide (a.cps.toList ≤ b.cps.toList)
def nlt (a b : Str) : Prop := a.cps.toList < b.cps.toList
instance (a b : Str) : Decidable (nlt a b) := by unfold nlt; infer_instance
def nsrt (ns : List Str) : List Str := ns.mergeSort nle
theorem nlt_irr (a : Str) : ¬ nlt a a := by unfold nlt; exact List.lt_irrefl _
theorem nlt_tr {a b c : Str} (h1 : nlt a b) (h2 : nlt b c) : nlt a c := by unfold nlt at *; exact List.lt_trans h1 h2
theorem nlt_asy {a b : Str} (h : nlt a b) : ¬ nlt b a := fun q => nlt_irr _ (nlt_tr h q)
theorem nlt_tri {a b : Str} (h : a ≠ b) : nlt a b ∨ nlt b a := by
  by_cases q : nlt a b
  · exact .inl q
  · refine .inr ?_
    have h1 : b.cps.toList ≤ a.cps.toList := List.not_lt.mp q
    rcases Classical.em (nlt b a) with h2 | h2
    · exact h2
    · have h3 : a.cps.toList ≤ b.cps.toList := List.not_lt.mp h2
      exact absurd (PySem.W.str_of_cps (List.le_antisymm h3 h1)) h
theorem nle_iff {a b : Str} : nle a b = true ↔ ¬ nlt b a := by
  unfold nle nlt
  rw [decide_eq_true_eq]
  exact List.not_lt.symm
theorem nsrt_perm (ns : List Str) : (nsrt ns).Perm ns := List.mergeSort_perm _ _
theorem nsrt_pw {ns : List Str} (nd : ns.Nodup) : (nsrt ns).Pairwise nlt := by
  have tr : ∀ a b c : Str, nle a b = true → nle b c = true → nle a c = true := fun a b c h1 h2 => by
    unfold nle at *; rw [decide_eq_true_eq] at *; exact List.le_trans h1 h2
  have tot : ∀ a b : Str, (nle a b || nle b a) = true := fun a b => by
    unfold nle; rw [Bool.or_eq_true, decide_eq_true_eq, decide_eq_true_eq]; exact List.le_total _ _
  have pw := List.pairwise_mergeSort tr tot ns
  have nd2 : (nsrt ns).Nodup := (nsrt_perm ns).nodup_iff.mpr nd
  refine List.Pairwise.imp_of_mem ?_ (List.Pairwise.and pw nd2)
  rintro a b _ _ ⟨h1, h2⟩
  rcases nlt_tri h2 with q | q
  · exact q
  · exact absurd q (nle_iff.mp h1)
theorem nlt_uniq : ∀ {xs ys : List Str}, xs.Pairwise nlt → ys.Pairwise nlt → xs.Perm ys → xs = ys
  | [], ys, _, _, h => (List.nil_perm.mp h).symm
  | x :: xs, [], _, _, h => absurd (List.perm_nil.mp h) (by simp)
  | x :: xs, y :: ys, p, q, h => by
    rw [List.pairwise_cons] at p q
    have e : x = y := by
      rcases List.mem_cons.mp (h.subset List.mem_cons_self) with e | m1
      · exact e
      · rcases List.mem_cons.mp (h.symm.subset List.mem_cons_self) with e | m2
        · exact e.symm
        · exact absurd (q.1 x m1) (nlt_asy (p.1 y m2))
    subst e
    rw [nlt_uniq p.2 q.2 (List.perm_cons _ |>.mp h)]
def bR (z : Str → Int) (a b : Str) : Prop := z b < z a ∨ (z a = z b ∧ nlt a b)
instance (z : Str → Int) (a b : Str) : Decidable (bR z a b) := by unfold bR; infer_instance
theorem bR_irr (z : Str → Int) (a : Str) : ¬ bR z a a := by
  rintro (h | ⟨_, h⟩)
  · omega
  · exact nlt_irr _ h
theorem bR_tr {z : Str → Int} {a b c : Str} (h1 : bR z a b) (h2 : bR z b c) : bR z a c := by
  rcases h1 with h1 | ⟨e1, h1⟩ <;> rcases h2 with h2 | ⟨e2, h2⟩
  · exact .inl (by omega)
  · exact .inl (by omega)
  · exact .inl (by omega)
  · exact .inr ⟨by omega, nlt_tr h1 h2⟩
theorem bR_asy {z : Str → Int} {a b : Str} (h : bR z a b) : ¬ bR z b a := fun q => bR_irr z _ (bR_tr h q)
theorem take_rankG {α : Type} {R : α → α → Prop} [DecidableRel R] (irr : ∀ a, ¬ R a a) (asy : ∀ a b, R a b → ¬ R b a) : ∀ (L : List α) (r : Nat), L.Pairwise R → ∀ k ∈ L, (k ∈ L.take r ↔ (L.filter fun j => decide (R j k)).length < r)
  | [], _, _, k, h => absurd h (by simp)
  | a :: t, 0, _, k, h => by simp
  | a :: t, r + 1, p, k, h => by
    obtain ⟨p1, p2⟩ := List.pairwise_cons.mp p
    rw [List.take_succ_cons]
    by_cases e : k = a
    · subst e
      have e0 : (k :: t).filter (fun j => decide (R j k)) = [] := by
        rw [List.filter_eq_nil_iff]
        intro x hx
        rcases List.mem_cons.mp hx with q | q
        · subst q; simpa using irr x
        · simpa using asy _ _ (p1 x q)
      rw [e0]
      simp
    · have hk : k ∈ t := by rcases List.mem_cons.mp h with q | q; exact absurd q e; exact q
      have := take_rankG irr asy t r p2 k hk
      rw [List.filter_cons_of_pos (by simpa using p1 k hk), List.length_cons, List.mem_cons, this]
      constructor
      · rintro (q | q)
        · exact absurd q e
        · omega
      · intro q; exact .inr (by omega)
theorem no_twoG {α : Type} {a b : α} : ∀ {L : List α}, L.Nodup → [a, b].Sublist L → [b, a].Sublist L → False
  | [], _, h, _ => by cases h
  | c :: t, n, h1, h2 => by
    obtain ⟨n1, n2⟩ := List.nodup_cons.mp n
    cases h1 with
    | cons _ h1 =>
      cases h2 with
      | cons _ h2 => exact no_twoG n2 h1 h2
      | cons_cons _ h2 => exact n1 (h1.subset (by simp))
    | cons_cons _ h1 =>
      cases h2 with
      | cons _ h2 => exact n1 (h2.subset (by simp))
      | cons_cons _ h2 => exact n1 (h1.subset (by simp))
theorem pair_subG {a b : Str} (h : nlt b a) : ∀ {L : List Str}, L.Pairwise nlt → a ∈ L → b ∈ L → [b, a].Sublist L
  | [], _, m, _ => by cases m
  | c :: t, p, ma, mb => by
    obtain ⟨p1, p2⟩ := List.pairwise_cons.mp p
    rcases List.mem_cons.mp mb with e | mb
    · subst e
      rcases List.mem_cons.mp ma with e | ma
      · subst e; exact absurd h (nlt_irr _)
      · exact .cons_cons _ (List.singleton_sublist.mpr ma)
    · rcases List.mem_cons.mp ma with e | ma
      · rw [e] at h; exact absurd (p1 b mb) (nlt_asy h)
      · exact .cons _ (pair_subG h p2 ma mb)
def rsort (z : Str → Int) (ns : List Str) : List Str := ns.mergeSort fun a b => decide (-(z a) ≤ -(z b))
theorem rsort_pw (z : Str → Int) {ns : List Str} (pn : ns.Pairwise nlt) : (rsort z ns).Pairwise (bR z) := by
  unfold rsort
  have nd0 : ns.Nodup := pn.imp fun {a b} h => by rintro rfl; exact nlt_irr _ h
  have tr : ∀ a b c : Str, decide (-(z a) ≤ -(z b)) = true → decide (-(z b) ≤ -(z c)) = true → decide (-(z a) ≤ -(z c)) = true := fun a b c h1 h2 => by simp only [decide_eq_true_eq] at *; omega
  have tot : ∀ a b : Str, (decide (-(z a) ≤ -(z b)) || decide (-(z b) ≤ -(z a))) = true := fun a b => by simp only [Bool.or_eq_true, decide_eq_true_eq]; omega
  have pw := List.pairwise_mergeSort tr tot ns
  have nd : (ns.mergeSort fun a b => decide (-(z a) ≤ -(z b))).Nodup := (List.mergeSort_perm _ _).nodup_iff.mpr nd0
  rw [List.pairwise_iff_forall_sublist] at pw ⊢
  intro a b h
  have h1 := pw h
  simp only [decide_eq_true_eq] at h1
  by_cases e : z a = z b
  · refine .inr ⟨e, ?_⟩
    have hab : a ≠ b := fun q => by
      subst q
      exact absurd (h.nodup nd) (by simp)
    rcases nlt_tri hab with q | q
    · exact q
    · have ha : a ∈ ns := (List.mergeSort_perm _ _).subset (h.subset (by simp))
      have hb : b ∈ ns := (List.mergeSort_perm _ _).subset (h.subset (by simp))
      exact (no_twoG nd h (List.pair_sublist_mergeSort tr tot (by simp only [decide_eq_true_eq]; omega) (pair_subG q pn ha hb))).elim
  · exact .inl (by omega)
theorem rsort_perm (z : Str → Int) (ns : List Str) : (rsort z ns).Perm ns := List.mergeSort_perm _ _
/-- the chosen ones are those of a small rank -/
theorem rsort_take (z : Str → Int) {ns : List Str} (pn : ns.Pairwise nlt) (r : Nat) {y : Str} (hy : y ∈ ns) : y ∈ (rsort z ns).take r ↔ (ns.filter fun j => decide (bR z j y)).length < r := by
  rw [take_rankG (bR_irr z) (fun a b => bR_asy) _ r (rsort_pw z pn) y ((rsort_perm z ns).mem_iff.mpr hy), ((rsort_perm z ns).filter _).length_eq]
theorem rsort_cnt (z : Str → Int) {ns : List Str} (pn : ns.Pairwise nlt) {r : Nat} (hr : r ≤ ns.length) : (ns.filter fun y => decide ((ns.filter fun j => decide (bR z j y)).length < r)).length = r := by
  have pm := rsort_perm z ns
  have nd0 : ns.Nodup := pn.imp fun {a b} h => by rintro rfl; exact nlt_irr _ h
  have nd : (rsort z ns).Nodup := pm.nodup_iff.mpr nd0
  rw [← (pm.filter _).length_eq]
  have e : (rsort z ns).filter (fun y => decide ((ns.filter fun j => decide (bR z j y)).length < r)) = (rsort z ns).filter (fun y => decide (y ∈ (rsort z ns).take r)) :=
    List.filter_congr fun y hy => decide_eq_decide.mpr (rsort_take z pn r (pm.subset hy)).symm
  rw [e]
  have e2 : ∀ (A B : List Str), (A ++ B).Nodup → (A ++ B).filter (fun y => decide (y ∈ A)) = A := fun A B n => by
    obtain ⟨n1, n2, n3⟩ := List.nodup_append.mp n
    rw [List.filter_append, List.filter_eq_self.mpr (by intro x hx; simpa using hx), List.filter_eq_nil_iff.mpr (by intro x hx; simpa using fun q => n3 x q x hx rfl), List.append_nil]
  have e3 := e2 ((rsort z ns).take r) ((rsort z ns).drop r) (by rw [List.take_append_drop]; exact nd)
  rw [List.take_append_drop] at e3
  rw [e3, List.length_take, pm.length_eq]
  omega
/-! the seats -/
def nam (gs : Gs) : List Str := gs.map (·.1)
def bas (gs : Gs) (n : Int) (y : Str) : Int := n * getRow gs y / wsum gs
def rmd (gs : Gs) (n : Int) (y : Str) : Int := n * getRow gs y % wsum gs
def lft (gs : Gs) (n : Int) : Int := n - ((nam gs).map (bas gs n)).sum
def rnk (gs : Gs) (n : Int) (y : Str) : Nat := ((nam gs).filter fun j => decide (bR (rmd gs n) j y)).length
def seat (gs : Gs) (n : Int) (y : Str) : Int := bas gs n y + if (rnk gs n y : Int) < lft gs n then 1 else 0
def shr (gs : Gs) (n : Int) : Gs := ((nsrt (nam gs)).map fun y => (y, seat gs n y)).filter fun p => decide (0 < p.2)
structure BdOk (gs : Gs) (n : Int) : Prop where
  nd : (nam gs).Nodup
  nn : ∀ b ∈ gs, 0 ≤ b.2
  w : 0 < wsum gs
  n1 : 1 ≤ n
theorem getRow_mem : ∀ {gs : Gs}, (nam gs).Nodup → ∀ b ∈ gs, getRow gs b.1 = b.2
  | [], _, b, h => by cases h
  | c :: t, nd, b, h => by
    obtain ⟨n1, n2⟩ := List.nodup_cons.mp (show (c.1 :: nam t).Nodup from nd)
    rcases List.mem_cons.mp h with e | m
    · subst e
      unfold getRow
      rw [List.find?_cons_of_pos (by simp)]
      rfl
    · have hne : c.1 ≠ b.1 := fun e => n1 (e ▸ List.mem_map.mpr ⟨b, m, rfl⟩)
      have := getRow_mem n2 b m
      unfold getRow at this ⊢
      rw [List.find?_cons_of_neg (by simpa using hne)]
      exact this
theorem mem_nam {gs : Gs} {y : Str} (h : y ∈ nam gs) (nd : (nam gs).Nodup) : (y, getRow gs y) ∈ gs := by
  obtain ⟨b, m, e⟩ := List.mem_map.mp h
  subst e
  rw [getRow_mem nd b m]
  exact m
theorem sum_nam {gs : Gs} (nd : (nam gs).Nodup) (F : Int → Int) : ((nam gs).map fun y => F (getRow gs y)).sum = (gs.map fun b => F b.2).sum := by
  congr 1
  unfold nam
  rw [List.map_map]
  exact List.map_congr_left fun b hb => by show F (getRow gs b.1) = _; rw [getRow_mem nd b hb]
theorem sum_add {α : Type} (f g : α → Int) : ∀ l : List α, (l.map fun x => f x + g x).sum = (l.map f).sum + (l.map g).sum
  | [] => rfl
  | x :: l => by simp only [List.map_cons, List.sum_cons, sum_add f g l]; omega
theorem sum_mul {α : Type} (f : α → Int) (w : Int) : ∀ l : List α, (l.map fun x => w * f x).sum = w * (l.map f).sum
  | [] => by simp
  | x :: l => by simp only [List.map_cons, List.sum_cons, sum_mul f w l, Int.mul_add]
theorem sum_ind {α : Type} (p : α → Prop) [DecidablePred p] : ∀ l : List α, (l.map fun x => if p x then (1 : Int) else 0).sum = ((l.filter fun x => decide (p x)).length : Int)
  | [] => rfl
  | x :: l => by
    simp only [List.map_cons, List.sum_cons, sum_ind p l]
    by_cases h : p x
    · rw [if_pos h, List.filter_cons_of_pos (by simpa using h), List.length_cons]; omega
    · rw [if_neg h, List.filter_cons_of_neg (by simpa using h)]; omega
theorem sum_nn {α : Type} (f : α → Int) : ∀ l : List α, (∀ x ∈ l, 0 ≤ f x) → 0 ≤ (l.map f).sum
  | [], _ => Int.le_refl _
  | x :: l, h => by
    have := sum_nn f l fun y hy => h y (List.mem_cons_of_mem _ hy)
    have := h x List.mem_cons_self
    simp only [List.map_cons, List.sum_cons]; omega
theorem sum_cap {α : Type} (f : α → Int) (w : Int) (hw : 0 ≤ w) : ∀ l : List α, (∀ x ∈ l, 0 ≤ f x ∧ f x ≤ w) → (l.map f).sum ≤ w * ((l.filter fun x => decide (0 < f x)).length : Int)
  | [], _ => by simp
  | x :: l, h => by
    have h1 := sum_cap f w hw l fun y hy => h y (List.mem_cons_of_mem _ hy)
    obtain ⟨h2, h3⟩ := h x List.mem_cons_self
    simp only [List.map_cons, List.sum_cons]
    by_cases q : 0 < f x
    · rw [List.filter_cons_of_pos (by simpa using q), List.length_cons]
      have : w * ((l.filter fun x => decide (0 < f x)).length + 1 : Nat) = w * ((l.filter fun x => decide (0 < f x)).length : Int) + w := by rw [Int.natCast_add, Int.mul_add]; simp
      omega
    · rw [List.filter_cons_of_neg (by simpa using q)]; omega
section
variable {gs : Gs} {n : Int}
theorem split_ (gs : Gs) (n : Int) (y : Str) : n * getRow gs y = wsum gs * bas gs n y + rmd gs n y := (Int.mul_ediv_add_emod _ _).symm
theorem rmd_lo (h : BdOk gs n) (y : Str) : 0 ≤ rmd gs n y := Int.emod_nonneg _ (by have := h.w; omega)
theorem rmd_hi (h : BdOk gs n) (y : Str) : rmd gs n y < wsum gs := Int.emod_lt_of_pos _ h.w
theorem getRow_nn (h : BdOk gs n) {y : Str} (hy : y ∈ nam gs) : 0 ≤ getRow gs y := h.nn _ (mem_nam hy h.nd)
theorem bas_nn (h : BdOk gs n) {y : Str} (hy : y ∈ nam gs) : 0 ≤ bas gs n y := Int.ediv_nonneg (Int.mul_nonneg (by have := h.n1; omega) (getRow_nn h hy)) (by have := h.w; omega)
theorem lft_mul (h : BdOk gs n) : wsum gs * lft gs n = ((nam gs).map (rmd gs n)).sum := by
  have e1 : ((nam gs).map fun y => n * getRow gs y).sum = n * wsum gs := by
    rw [sum_nam h.nd fun i => n * i]
    exact sum_mul (fun b : Str × Int => b.2) n gs
  have e2 : ((nam gs).map fun y => n * getRow gs y).sum = ((nam gs).map fun y => wsum gs * bas gs n y).sum + ((nam gs).map (rmd gs n)).sum := by
    rw [← sum_add]
    congr 1
    exact List.map_congr_left fun y _ => split_ gs n y
  rw [sum_mul (bas gs n) (wsum gs)] at e2
  unfold lft
  rw [Int.mul_sub, Int.mul_comm (wsum gs) n]
  omega
theorem lft_lo (h : BdOk gs n) : 0 ≤ lft gs n := by
  have h1 := lft_mul h
  have h2 := sum_nn (rmd gs n) (nam gs) fun y _ => rmd_lo h y
  rw [← h1] at h2
  exact Int.nonneg_of_mul_nonneg_right h2 h.w
theorem lft_cnt (h : BdOk gs n) : lft gs n ≤ (((nam gs).filter fun y => decide (0 < rmd gs n y)).length : Int) := by
  have h1 := lft_mul h
  have h2 := sum_cap (rmd gs n) (wsum gs) (by have := h.w; omega) (nam gs) fun y _ => ⟨rmd_lo h y, by have := rmd_hi h y; omega⟩
  rw [← h1] at h2
  exact Int.le_of_mul_le_mul_left h2 h.w
theorem lft_hi (h : BdOk gs n) : lft gs n ≤ (gs.length : Int) := by
  have h1 := lft_cnt h
  have h2 := List.length_filter_le (fun y => decide (0 < rmd gs n y)) (nam gs)
  have h3 : (nam gs).length = gs.length := List.length_map ..
  omega
theorem seat_nn (h : BdOk gs n) {y : Str} (hy : y ∈ nam gs) : 0 ≤ seat gs n y := by
  have := bas_nn h hy
  unfold seat; split <;> omega
theorem filter_perm_len {p : Str → Bool} {a b : List Str} (h : a.Perm b) : (a.filter p).length = (b.filter p).length := (h.filter p).length_eq
theorem rnk_srt (gs : Gs) (n : Int) (y : Str) : rnk gs n y = ((nsrt (nam gs)).filter fun j => decide (bR (rmd gs n) j y)).length := (filter_perm_len (nsrt_perm _)).symm
/-- the chosen names, as the program takes them -/
theorem chosen_ (h : BdOk gs n) {y : Str} (hy : y ∈ nam gs) : y ∈ (rsort (rmd gs n) (nsrt (nam gs))).take (lft gs n).toNat ↔ (rnk gs n y : Int) < lft gs n := by
  rw [rsort_take _ (nsrt_pw h.nd) _ ((nsrt_perm _).mem_iff.mpr hy), ← rnk_srt]
  have := lft_lo h
  omega
theorem sum_seat (h : BdOk gs n) : ((nam gs).map (seat gs n)).sum = n := by
  have e : ((nam gs).map (seat gs n)).sum = ((nam gs).map (bas gs n)).sum + ((nam gs).map fun y => if (rnk gs n y : Int) < lft gs n then (1 : Int) else 0).sum := sum_add _ _ _
  rw [e, sum_ind]
  have hl := lft_lo h
  have hh := lft_hi h
  have e1 : ((nam gs).filter fun x => decide ((rnk gs n x : Int) < lft gs n)).length = (lft gs n).toNat := by
    rw [← filter_perm_len (nsrt_perm _)]
    have e2 := rsort_cnt (rmd gs n) (nsrt_pw h.nd) (r := (lft gs n).toNat) (by rw [(nsrt_perm _).length_eq]; show _ ≤ (gs.map (·.1)).length; rw [List.length_map]; omega)
    rw [← e2]
    congr 1
    refine List.filter_congr fun y _ => decide_eq_decide.mpr ?_
    rw [← rnk_srt]
    omega
  rw [e1]
  unfold lft at *
  omega
theorem sum_pos : ∀ l : Gs, (∀ p ∈ l, 0 ≤ p.2) → ((l.filter fun p => decide (0 < p.2)).map (·.2)).sum = (l.map (·.2)).sum
  | [], _ => rfl
  | p :: l, h => by
    have h1 := sum_pos l fun y hy => h y (List.mem_cons_of_mem _ hy)
    have h2 := h p List.mem_cons_self
    by_cases q : 0 < p.2
    · rw [List.filter_cons_of_pos (by simpa using q)]; simp only [List.map_cons, List.sum_cons]; omega
    · rw [List.filter_cons_of_neg (by simpa using q)]; simp only [List.map_cons, List.sum_cons]; omega
theorem sum_perm : ∀ {a b : List Int}, a.Perm b → a.sum = b.sum
  | _, _, .nil => rfl
  | _, _, .cons x h => by simp only [List.sum_cons, sum_perm h]
  | _, _, .swap x y l => by simp only [List.sum_cons]; omega
  | _, _, .trans h1 h2 => (sum_perm h1).trans (sum_perm h2)
theorem filter_le {α : Type} {p q : α → Bool} (l : List α) (h : ∀ x, p x = true → q x = true) : (l.filter p).length ≤ (l.filter q).length := by
  induction l with
  | nil => exact Nat.le_refl _
  | cons x l ih =>
    by_cases hp : p x = true
    · rw [List.filter_cons_of_pos hp, List.filter_cons_of_pos (h x hp)]; simp only [List.length_cons]; omega
    · rw [List.filter_cons_of_neg hp]
      by_cases hq : q x = true
      · rw [List.filter_cons_of_pos hq]; simp only [List.length_cons]; omega
      · rw [List.filter_cons_of_neg hq]; exact ih
theorem sum_shr (h : BdOk gs n) : wsum (shr gs n) = n := by
  unfold wsum shr
  rw [sum_pos _ fun p hp => by
    obtain ⟨y, hy, e⟩ := List.mem_map.mp hp
    subst e
    exact seat_nn h ((nsrt_perm _).mem_iff.mp hy)]
  rw [List.map_map]
  show ((nsrt (nam gs)).map (seat gs n)).sum = n
  rw [sum_perm ((nsrt_perm (nam gs)).map _)]
  exact sum_seat h
theorem get_filter : ∀ {l : Gs}, (nam l).Nodup → (∀ p ∈ l, 0 ≤ p.2) → ∀ p ∈ l, getRow (l.filter fun p => decide (0 < p.2)) p.1 = p.2
  | [], _, _, p, h => by cases h
  | c :: t, nd, nn, p, h => by
    obtain ⟨n1, n2⟩ := List.nodup_cons.mp (show (c.1 :: nam t).Nodup from nd)
    have rest : ∀ q ∈ t, getRow (t.filter fun p => decide (0 < p.2)) q.1 = q.2 := get_filter n2 fun q hq => nn q (List.mem_cons_of_mem _ hq)
    by_cases q : 0 < c.2
    · rw [List.filter_cons_of_pos (by simpa using q)]
      unfold getRow
      rcases List.mem_cons.mp h with e | m
      · subst e
        rw [List.find?_cons_of_pos (by simp)]; rfl
      · have hne : c.1 ≠ p.1 := fun e => n1 (e ▸ List.mem_map.mpr ⟨p, m, rfl⟩)
        rw [List.find?_cons_of_neg (by simpa using hne)]
        exact rest p m
    · rw [List.filter_cons_of_neg (by simpa using q)]
      rcases List.mem_cons.mp h with e | m
      · subst e
        have h0 : p.2 = 0 := by have := nn p List.mem_cons_self; omega
        rw [h0]
        unfold getRow
        rw [List.find?_eq_none.mpr (fun x hx => by
          simp only [decide_eq_true_eq]
          intro e
          exact n1 (e ▸ List.mem_map.mpr ⟨x, (List.mem_filter.mp hx).1, rfl⟩))]
        rfl
      · exact rest p m
theorem get_shr (h : BdOk gs n) {y : Str} (hy : y ∈ nam gs) : getRow (shr gs n) y = seat gs n y := by
  have e : nam ((nsrt (nam gs)).map fun y => (y, seat gs n y)) = nsrt (nam gs) := by unfold nam; rw [List.map_map]; exact List.map_id' _
  exact get_filter (l := (nsrt (nam gs)).map fun y => (y, seat gs n y)) (by rw [e]; exact (nsrt_perm _).nodup_iff.mpr h.nd) (fun p hp => by
    obtain ⟨z, hz, e⟩ := List.mem_map.mp hp
    subst e
    exact seat_nn h ((nsrt_perm _).mem_iff.mp hz)) (y, seat gs n y) (List.mem_map.mpr ⟨y, (nsrt_perm _).mem_iff.mpr hy, rfl⟩)
theorem seat_lo (gs : Gs) (n : Int) (y : Str) : n * getRow gs y / wsum gs ≤ seat gs n y := by
  show bas gs n y ≤ _
  unfold seat; split <;> omega
theorem seat_hi (h : BdOk gs n) (y : Str) : seat gs n y ≤ (n * getRow gs y + wsum gs - 1) / wsum gs := by
  have hw := h.w
  have h0 := rmd_lo h y
  rw [split_ gs n y, show wsum gs * bas gs n y + rmd gs n y + wsum gs - 1 = rmd gs n y + wsum gs - 1 + wsum gs * bas gs n y by omega, Int.add_mul_ediv_left _ _ (by omega)]
  by_cases q : 0 < rmd gs n y
  · have : 1 ≤ (rmd gs n y + wsum gs - 1) / wsum gs := (Int.le_ediv_iff_mul_le hw).mpr (by omega)
    unfold seat; split <;> omega
  · have : 0 ≤ (rmd gs n y + wsum gs - 1) / wsum gs := Int.ediv_nonneg (by omega) (by omega)
    have h1 := lft_cnt h
    have h2 : ((nam gs).filter fun y => decide (0 < rmd gs n y)).length ≤ rnk gs n y := by
      unfold rnk
      exact (filter_le _ (fun j hj => by
        simp only [decide_eq_true_eq] at hj ⊢
        exact .inl (by omega)))
    unfold seat
    rw [if_neg (by omega)]
    omega
theorem seat_mono (h : BdOk gs n) {x y : Str} (hxy : getRow gs y < getRow gs x) : seat gs n y ≤ seat gs n x := by
  have hn := h.n1
  have hw := h.w
  have h1 : n * getRow gs y < n * getRow gs x := Int.mul_lt_mul_of_pos_left hxy (by omega)
  have h2 : bas gs n y ≤ bas gs n x := Int.ediv_le_ediv hw (by omega)
  by_cases e : bas gs n y = bas gs n x
  · have s1 := split_ gs n x
    have s2 := split_ gs n y
    rw [e] at s2
    have h3 : rmd gs n y < rmd gs n x := by omega
    have h4 : rnk gs n x ≤ rnk gs n y := by
      unfold rnk
      exact (filter_le _ (fun j hj => by
        simp only [decide_eq_true_eq] at hj ⊢
        exact bR_tr hj (.inl h3)))
    unfold seat
    rw [e]
    split <;> split <;> omega
  · unfold seat
    split <;> split <;> omega
/-- one guard gets all -/
theorem shr_one {g : Str} {b n : Int} (hb : 0 < b) (hn : 1 ≤ n) : shr [(g, b)] n = [(g, n)] := by
  have ew : wsum [(g, b)] = b := by unfold wsum; simp
  have eg : getRow [(g, b)] g = b := by unfold getRow; simp
  have eb : bas [(g, b)] n g = n := by unfold bas; rw [ew, eg]; exact Int.mul_ediv_cancel _ (by omega)
  have el : lft [(g, b)] n = 0 := by unfold lft nam; simp [eb]
  have es : seat [(g, b)] n g = n := by unfold seat; rw [eb, el, if_neg (by omega)]; omega
  have e1 : nsrt (nam [(g, b)]) = [g] := List.perm_singleton.mp (nsrt_perm _)
  unfold shr
  rw [e1]
  simp only [List.map_cons, List.map_nil, es]
  rw [List.filter_cons_of_pos (by rw [decide_eq_true_eq]; show 0 < n; omega)]
  rfl
end

/-! rows by a function of the name -/
def rowF (ns : List Str) (f : Str → Int) : Row := ns.map fun y => (y, f y)
theorem rowF_find : ∀ {ns : List Str} {f : Str → Int} {y : Str}, y ∈ ns → (rowF ns f).find? (fun p => decide (p.1 = y)) = some (y, f y)
  | [], _, _, h => by cases h
  | x :: ns, f, y, h => by
    show List.find? _ ((x, f x) :: rowF ns f) = _
    by_cases e : x = y
    · subst e; rw [List.find?_cons_of_pos (by simp)]
    · rw [List.find?_cons_of_neg (by simpa using e)]
      rcases List.mem_cons.mp h with q | q
      · exact absurd q.symm e
      · exact rowF_find q
theorem rowF_none : ∀ {ns : List Str} {f : Str → Int} {y : Str}, y ∉ ns → (rowF ns f).find? (fun p => decide (p.1 = y)) = none := fun {ns f y} h => List.find?_eq_none.mpr fun p hp => by
  obtain ⟨z, hz, e⟩ := List.mem_map.mp hp
  subst e
  simp only [decide_eq_true_eq]
  intro e
  exact h (e ▸ hz)
theorem rowF_val {ns : List Str} {f : Str → Int} {y : Str} (h : y ∈ ns) : valV (rowK (rowF ns f)) (Sum.inr y) = some (.int (f y)) := by rw [rowK_val, rowF_find h]; rfl
theorem rowF_vals (ns : List Str) (f : Str → Int) : (rowK (rowF ns f)).map (·.2) = (ns.map f).map V.int := by unfold rowK rowF; rw [List.map_map, List.map_map, List.map_map]; rfl
theorem rowF_keys (ns : List Str) (f : Str → Int) : (rowK (rowF ns f)).map (·.1) = ns.map Sum.inr := by unfold rowK rowF; rw [List.map_map, List.map_map]; rfl
theorem rowF_len (ns : List Str) (f : Str → Int) : (rowK (rowF ns f)).length = ns.length := by unfold rowK rowF; rw [List.length_map, List.length_map]
theorem rowF_put {ns : List Str} {f : Str → Int} {y : Str} {i : Int} (h : y ∈ ns) : putK (rowK (rowF ns f)) (Sum.inr y) (.int i) = rowK (rowF ns fun z => if z = y then i else f z) := by
  rw [rowK_put]
  congr 1
  unfold putRow rowF
  rw [if_pos (by rw [List.any_map, List.any_eq_true]; exact ⟨y, h, by simp⟩), List.map_map]
  refine List.map_congr_left fun z _ => ?_
  by_cases e : z = y <;> simp [e]
theorem rowF_new {ns : List Str} {f : Str → Int} {y : Str} (h : y ∉ ns) : putK (rowK (rowF ns f)) (Sum.inr y) (.int (f y)) = rowK (rowF (ns ++ [y]) f) := by
  rw [rowK_put]
  congr 1
  unfold putRow rowF
  rw [if_neg (by
    rw [List.any_map, List.any_eq_true]
    rintro ⟨z, hz, e⟩
    simp only [Function.comp, decide_eq_true_eq] at e
    exact h (e ▸ hz)), List.map_append]
  rfl
theorem rowF_item {ns : List Str} {f : Str → Int} {i : Nat} {k : Key} {v : V} (h : (rowK (rowF ns f))[i]? = some (k, v)) : ∃ y, ns[i]? = some y ∧ k = Sum.inr y ∧ v = .int (f y) := by
  unfold rowK rowF at h
  rw [List.map_map, List.getElem?_map] at h
  cases e : ns[i]? with
  | none => rw [e] at h; cases h
  | some y => rw [e] at h; have h := Option.some.inj h; injection h with h1 h2; exact ⟨y, rfl, h1.symm, h2.symm⟩
theorem rowF_congr {ns : List Str} {f g : Str → Int} (h : ∀ y ∈ ns, f y = g y) : rowF ns f = rowF ns g := List.map_congr_left fun y hy => by rw [h y hy]
/-! the bonds as data -/
def bD (g : Str × Int) : PyData := .tuple [.str g.1, .int g.2]
theorem bD_le (g h : Str × Int) (ne : g.1 ≠ h.1) : PySem.W.dataLe false bD g h = nle g.1 h.1 := by
  show (!PySem.W.dataLt (bD h) (bD g)) = _
  unfold bD
  rw [PySem.W.dataLt_pair (by simp [PySem.W.alike]) (by simp [PySem.W.alike]), if_neg (by simpa [PyData.eqv] using fun e => ne e.symm), PySem.W.dataLt_str]
  unfold nle
  by_cases q : h.1.cps.toList < g.1.cps.toList
  · have : ¬ g.1.cps.toList ≤ h.1.cps.toList := fun z => List.not_lt.mpr z q
    simp [q, this]
  · have : g.1.cps.toList ≤ h.1.cps.toList := List.not_lt.mp q
    simp [q, this]
theorem bond_lt (z : Str → Int) (a b : Str) : PySem.W.dataLt (.tuple [.int (-(z a)), .str a]) (.tuple [.int (-(z b)), .str b]) = decide (bR z a b) := by
  rw [PySem.W.dataLt_pair (by simp [PySem.W.alike]) (by simp [PySem.W.alike]), PySem.W.dataLt_int, PySem.W.dataLt_str]
  unfold bR nlt
  simp only [PyData.eqv, beq_iff_eq]
  by_cases h1 : z a = z b
  · have e1 : -(z a) = -(z b) := by omega
    have e2 : ¬ z b < z a := by omega
    rw [if_pos e1]
    by_cases h2 : a = b
    · subst h2; simp [List.lt_irrefl]
    · rw [if_neg (by simpa using h2)]; simp [h1]
  · have e1 : ¬ -(z a) = -(z b) := by omega
    rw [if_neg e1]
    simp only [h1, false_and, or_false]
    exact decide_eq_decide.mpr (by omega)

local macro_rules | `(tactic| walk_at "my_rd") => `(tactic| (repeat first
  | with_reducible refine q_tCons ?_
  | ((with_reducible apply q_var); (focus (exact rfl)))
  | with_reducible refine q_c ?_
  | ((with_reducible apply q_nxE); (focus (with_reducible exact rfl)))
  | with_reducible refine q_bK ?_
  | with_reducible refine q_call ?_
  | with_reducible refine q_callK ?_
  | with_reducible refine q_tNil ?_
  | with_reducible refine q_cb ?_
  | with_reducible refine q_seq ?_
  | with_reducible refine q_asg ?_
  | with_reducible refine q_gName ?_
  | with_reducible refine q_op ?_
  | with_reducible refine q_test ?_
  | with_reducible refine q_tB ?_
  | with_reducible refine q_ifS ?_
  | with_reducible refine q_ret ?_
  | ((with_reducible apply q_rtE); (focus (with_reducible exact rfl)))
  | with_reducible refine q_next ?_
  | with_reducible refine q_ifF ?_
  | with_reducible refine q_ifT ?_
  | with_reducible refine q_drop ?_
  | with_reducible refine q_and ?_
  | with_reducible refine q_or ?_
  | with_reducible refine q_andT ?_
  | with_reducible refine q_andF ?_
  | with_reducible refine q_orF ?_
  | with_reducible refine q_orT ?_
  | with_reducible refine q_andV ?_
  | with_reducible refine q_andVT ?_
  | with_reducible refine q_andVF ?_
  | with_reducible refine q_orV ?_
  | with_reducible refine q_gCons ?_
  | with_reducible refine q_gNil ?_
  | with_reducible refine q_tup ?_
  | with_reducible refine q_lst ?_
  | with_reducible refine q_not ?_
  | with_reducible refine q_notKT ?_
  | with_reducible refine q_notKF ?_
  | with_reducible refine q_I0 ?_
  | with_reducible refine q_eqI ?_
  | with_reducible refine q_neI ?_
  | ((with_reducible refine q_I ?_ ?_); first | decide | omega | exact ⟨by omega, by omega⟩ | exact ⟨by decide, by decide⟩ | exact .inl ⟨by omega, by omega⟩ | exact .inr ⟨by omega, by omega⟩ | exact .inr ⟨by decide, by decide⟩)
  | with_reducible refine q_eqS ?_
  | with_reducible refine q_neS ?_
  | with_reducible refine q_brk ?_
  | with_reducible refine q_ct ?_
  | ((with_reducible apply q_bkE); (focus (with_reducible exact rfl)))
  | ((with_reducible apply q_cnE); (focus (with_reducible exact rfl)))
  | with_reducible refine q_retN ?_
  | with_reducible refine q_gSub ?_
  | with_reducible refine q_for ?_
  | with_reducible refine q_iList ?_
  | with_reducible refine q_iTup ?_
  | with_reducible refine q_iRng1 ?_
  | with_reducible refine q_notK ?_
  | with_reducible refine q_orVT ?_
  | with_reducible refine q_orVF ?_
  | with_reducible refine q_notV ?_
  | with_reducible refine q_notVK ?_
  | with_reducible refine q_ifE ?_
  | with_reducible refine q_ifET ?_
  | with_reducible refine q_ifEF ?_
  | with_reducible refine q_yes ?_
  | with_reducible refine q_un ?_
  | with_reducible refine q_rU ?_
  | with_reducible refine q_abs ?_
  | with_reducible refine q_int1 ?_
  | with_reducible refine q_bm ?_
  | with_reducible refine q_bm0 ?_
  | with_reducible refine q_lc ?_
  | with_reducible refine q_keepT ?_
  | with_reducible refine q_keepF ?_
  | ((with_reducible apply q_aug); (focus (exact rfl)))
  | with_reducible refine q_ipI ?_
  | with_reducible refine q_chain ?_
  | with_reducible refine q_pairC ?_
  | with_reducible refine q_pairsK ?_
  | with_reducible refine q_pairN ?_
  | with_reducible refine q_fld ?_
  | with_reducible refine q_sFld ?_
  | with_reducible refine q_meth ?_
  | with_reducible refine q_makeK ?_
  | with_reducible refine q_isBl ?_
  | with_reducible refine q_notBl ?_
  | with_reducible refine q_sl ?_
  | with_reducible refine q_noPart ?_
  | with_reducible refine q_part ?_
  | with_reducible refine q_partK ?_
  | ((with_reducible apply q_mulStr); (focus (decide +kernel)))
  | with_reducible refine q_chT ?_
  | with_reducible refine q_chF ?_
  | with_reducible refine q_ord ?_
  | with_reducible refine q_iStr0 ?_
  | with_reducible refine q_iStr ?_
  | with_reducible refine q_tDIn ?_
  | with_reducible refine q_tDNotIn ?_
  | with_reducible refine q_tDGet ?_
  | with_reducible refine q_tDGet2 ?_
  | with_reducible refine q_tDGet1 ?_
  | with_reducible refine q_tDSetd ?_
  | ((with_reducible apply q_dG2a); (focus ((repeat first | (with_reducible exact upd_same) | (with_reducible assumption) | (with_reducible apply upd_new (by assumption)) | (with_reducible apply upd_other (by first | assumption | exact Ne.symm (by assumption))) | (with_reducible refine' Kp.get (by assumption) ?_ (by first | assumption | exact Ne.symm (by assumption))) | (with_reducible apply Same.get (by assumption))); done)))
  | ((with_reducible apply q_dSda); (focus ((repeat first | (with_reducible exact upd_same) | (with_reducible assumption) | (with_reducible apply upd_new (by assumption)) | (with_reducible apply upd_other (by first | assumption | exact Ne.symm (by assumption))) | (with_reducible refine' Kp.get (by assumption) ?_ (by first | assumption | exact Ne.symm (by assumption))) | (with_reducible apply Same.get (by assumption))); done)))
  | with_reducible refine q_sDPut ?_
  | ((with_reducible apply q_dInS); (focus ((repeat first | (with_reducible exact upd_same) | (with_reducible assumption) | (with_reducible apply upd_new (by assumption)) | (with_reducible apply upd_other (by first | assumption | exact Ne.symm (by assumption))) | (with_reducible refine' Kp.get (by assumption) ?_ (by first | assumption | exact Ne.symm (by assumption))) | (with_reducible apply Same.get (by assumption))); done)))
  | ((with_reducible apply q_dNInS); (focus ((repeat first | (with_reducible exact upd_same) | (with_reducible assumption) | (with_reducible apply upd_new (by assumption)) | (with_reducible apply upd_other (by first | assumption | exact Ne.symm (by assumption))) | (with_reducible refine' Kp.get (by assumption) ?_ (by first | assumption | exact Ne.symm (by assumption))) | (with_reducible apply Same.get (by assumption))); done)))
  | ((with_reducible apply q_dInI); (focus ((repeat first | (with_reducible exact upd_same) | (with_reducible assumption) | (with_reducible apply upd_new (by assumption)) | (with_reducible apply upd_other (by first | assumption | exact Ne.symm (by assumption))) | (with_reducible refine' Kp.get (by assumption) ?_ (by first | assumption | exact Ne.symm (by assumption))) | (with_reducible apply Same.get (by assumption))); done)))
  | ((with_reducible apply q_dNInI); (focus ((repeat first | (with_reducible exact upd_same) | (with_reducible assumption) | (with_reducible apply upd_new (by assumption)) | (with_reducible apply upd_other (by first | assumption | exact Ne.symm (by assumption))) | (with_reducible refine' Kp.get (by assumption) ?_ (by first | assumption | exact Ne.symm (by assumption))) | (with_reducible apply Same.get (by assumption))); done)))
  | ((with_reducible apply q_bmL); (focus ((repeat first | (with_reducible exact upd_same) | (with_reducible assumption) | (with_reducible apply upd_new (by assumption)) | (with_reducible apply upd_other (by first | assumption | exact Ne.symm (by assumption))) | (with_reducible refine' Kp.get (by assumption) ?_ (by first | assumption | exact Ne.symm (by assumption))) | (with_reducible apply Same.get (by assumption))); done)))
  | ((with_reducible apply q_bmL0); (focus ((repeat first | (with_reducible exact upd_same) | (with_reducible assumption) | (with_reducible apply upd_new (by assumption)) | (with_reducible apply upd_other (by first | assumption | exact Ne.symm (by assumption))) | (with_reducible refine' Kp.get (by assumption) ?_ (by first | assumption | exact Ne.symm (by assumption))) | (with_reducible apply Same.get (by assumption))); done)))
  | ((with_reducible apply q_ixLt); (focus ((repeat first | (with_reducible exact upd_same) | (with_reducible assumption) | (with_reducible apply upd_new (by assumption)) | (with_reducible apply upd_other (by first | assumption | exact Ne.symm (by assumption))) | (with_reducible refine' Kp.get (by assumption) ?_ (by first | assumption | exact Ne.symm (by assumption))) | (with_reducible apply Same.get (by assumption))); done)); (focus (exact rfl)))
  | ((with_reducible apply q_ixTt); (focus ((repeat first | (with_reducible exact upd_same) | (with_reducible assumption) | (with_reducible apply upd_new (by assumption)) | (with_reducible apply upd_other (by first | assumption | exact Ne.symm (by assumption))) | (with_reducible refine' Kp.get (by assumption) ?_ (by first | assumption | exact Ne.symm (by assumption))) | (with_reducible apply Same.get (by assumption))); done)); (focus (exact rfl)))
  | ((with_reducible apply q_lenLt); (focus ((repeat first | (with_reducible exact upd_same) | (with_reducible assumption) | (with_reducible apply upd_new (by assumption)) | (with_reducible apply upd_other (by first | assumption | exact Ne.symm (by assumption))) | (with_reducible refine' Kp.get (by assumption) ?_ (by first | assumption | exact Ne.symm (by assumption))) | (with_reducible apply Same.get (by assumption))); done)))
  | ((with_reducible apply q_lenTt); (focus ((repeat first | (with_reducible exact upd_same) | (with_reducible assumption) | (with_reducible apply upd_new (by assumption)) | (with_reducible apply upd_other (by first | assumption | exact Ne.symm (by assumption))) | (with_reducible refine' Kp.get (by assumption) ?_ (by first | assumption | exact Ne.symm (by assumption))) | (with_reducible apply Same.get (by assumption))); done)))
  | ((with_reducible apply q_append); (focus ((repeat first | (with_reducible exact upd_same) | (with_reducible assumption) | (with_reducible apply upd_new (by assumption)) | (with_reducible apply upd_other (by first | assumption | exact Ne.symm (by assumption))) | (with_reducible refine' Kp.get (by assumption) ?_ (by first | assumption | exact Ne.symm (by assumption))) | (with_reducible apply Same.get (by assumption))); done)); (focus ((first | (exact Nat.lt_of_ble_eq_true rfl) | (simp only [List.length_append, List.length_cons, List.length_nil, List.length_map]; exact small1000 (by omega))))))
  | ((with_reducible apply q_setL); (focus ((repeat first | (with_reducible exact upd_same) | (with_reducible assumption) | (with_reducible apply upd_new (by assumption)) | (with_reducible apply upd_other (by first | assumption | exact Ne.symm (by assumption))) | (with_reducible refine' Kp.get (by assumption) ?_ (by first | assumption | exact Ne.symm (by assumption))) | (with_reducible apply Same.get (by assumption))); done)); (focus (exact rfl)))
  | with_reducible refine q_ifNT ?_
  | with_reducible refine q_ifNF ?_
  | with_reducible refine q_andNT ?_
  | with_reducible refine q_andNF ?_
  | with_reducible refine q_orNT ?_
  | with_reducible refine q_orNF ?_
  | with_reducible refine q_bKNT ?_
  | with_reducible refine q_bKNF ?_
  | with_reducible refine q_tNGet ?_
  | with_reducible refine q_tNIn ?_
  | with_reducible refine q_sNPut ?_
  | with_reducible refine q_sFldAug ?_
  | with_reducible refine q_sDAug ?_
  | with_reducible refine q_sDDel ?_
  | with_reducible refine q_forX ?_
  | with_reducible refine q_tMake ?_
  | ((with_reducible apply q_dG1a); (focus ((repeat first | (with_reducible exact upd_same) | (with_reducible assumption) | (with_reducible apply upd_new (by assumption)) | (with_reducible apply upd_other (by first | assumption | exact Ne.symm (by assumption))) | (with_reducible refine' Kp.get (by assumption) ?_ (by first | assumption | exact Ne.symm (by assumption))) | (with_reducible apply Same.get (by assumption))); done)))))
/-! shares -/
def shQ : Str := "shares.<locals>.<lambda>"
theorem PairsAt.get {H : Hp} {xs : List V} {gs : Gs} (h : PairsAt H xs gs) {i : Nat} {g : Str × Int} {x : V} (hg : gs[i]? = some g) (hx : xs[i]? = some x) : ∃ a, x = .ref a ∧ H a = some (.tup [.str g.1, .int g.2]) := by
  obtain ⟨a, h1, h2⟩ := h.at_ i g hg
  exact ⟨a, Option.some.inj (hx.symm.trans h1), h2⟩
def zipB (xs : List V) (gs : Gs) : List (V × PyData) := (xs.zip gs).map fun z => (z.1, bD z.2)
theorem nodup_inj {gs : Gs} (nd : (nam gs).Nodup) {a b : Str × Int} (ha : a ∈ gs) (hb : b ∈ gs) (e : a.1 = b.1) : a = b := by
  have h1 := getRow_mem nd a ha
  have h2 := getRow_mem nd b hb
  rw [e] at h1
  exact Prod.ext e (h1.symm.trans h2)
theorem sortPairs {H : Hp} {xs : List V} {gs : Gs} (h : PairsAt H xs gs) (nd : (nam gs).Nodup) :
    ∃ gs', PairsAt H (((zipB xs gs).mergeSort (PySem.W.dataLe false (·.2))).map (·.1)) gs' ∧ nam gs' = nsrt (nam gs) ∧ gs'.Perm gs := by
  have m2 : (xs.zip gs).map (·.2) = gs := by rw [List.map_snd_zip]; rw [h.len]; exact Nat.le_refl _
  have key : ∀ a ∈ xs.zip gs, ∀ b ∈ xs.zip gs, PySem.W.dataLe false bD a.2 b.2 = nle a.2.1 b.2.1 := fun a ha b hb => by
    have ha2 : a.2 ∈ gs := m2 ▸ List.mem_map.mpr ⟨a, ha, rfl⟩
    have hb2 : b.2 ∈ gs := m2 ▸ List.mem_map.mpr ⟨b, hb, rfl⟩
    by_cases e : a.2.1 = b.2.1
    · rw [nodup_inj nd ha2 hb2 e]
      show (!PySem.W.dataLt _ _) = _
      rw [show PySem.W.dataLt (bD b.2) (bD b.2) = false from PyProof.Rows.lex_irrefl _]
      exact (nle_iff.mpr (nlt_irr _)).symm
    · exact bD_le _ _ e
  let Z := (xs.zip gs).mergeSort fun a b => PySem.W.dataLe false bD a.2 b.2
  have pm : Z.Perm (xs.zip gs) := List.mergeSort_perm _ _
  have e1 : (zipB xs gs).mergeSort (PySem.W.dataLe false (·.2)) = Z.map fun z => (z.1, bD z.2) := by
    unfold zipB
    exact (List.map_mergeSort (f := fun z : V × (Str × Int) => (z.1, bD z.2)) (s := PySem.W.dataLe false (·.2)) fun a _ b _ => rfl).symm
  have e2 : Z.map (fun z => z.2.1) = nsrt (nam gs) := by
    have : Z.map (fun z => z.2.1) = ((xs.zip gs).map fun z => z.2.1).mergeSort nle := List.map_mergeSort fun a ha b hb => key a ha b hb
    rw [this]
    unfold nsrt nam
    rw [← m2, List.map_map, m2]
    rfl
  refine ⟨Z.map (·.2), ⟨by rw [e1, List.length_map, List.length_map, List.length_map], fun i g hg => ?_⟩, by unfold nam; rw [List.map_map]; exact e2, by have := pm.map (·.2); rw [m2] at this; exact this⟩
  rw [List.getElem?_map] at hg
  cases ez : Z[i]? with
  | none => rw [ez] at hg; cases hg
  | some z =>
    rw [ez] at hg
    have hg := Option.some.inj hg
    obtain ⟨j, hj⟩ := List.mem_iff_getElem?.mp (pm.subset (List.mem_of_getElem? ez))
    rw [List.getElem?_zip_eq_some] at hj
    obtain ⟨a, q1, q2⟩ := h.get hj.2 hj.1
    refine ⟨a, by rw [e1, List.map_map, List.getElem?_map, ez]; show some z.1 = _; rw [q1], by rw [← hg]; exact q2⟩
theorem zipB_fst {H : Hp} {xs : List V} {gs : Gs} (h : PairsAt H xs gs) : (zipB xs gs).map (·.1) = xs := by
  unfold zipB
  rw [List.map_map]
  show (xs.zip gs).map (·.1) = xs
  rw [List.map_fst_zip]
  rw [h.len]; exact Nat.le_refl _
theorem zipB_mem {K : PySem.W.Frag} {H : Hp} {xs : List V} {gs : Gs} (h : PairsAt H xs gs) {b : V × PyData} (hb : b ∈ zipB xs gs) : ∃ g ∈ gs, b.2 = bD g ∧ Dp K H b.1 (bD g) := by
  obtain ⟨z, hz, e⟩ := List.mem_map.mp hb
  obtain ⟨j, hj⟩ := List.mem_iff_getElem?.mp hz
  rw [List.getElem?_zip_eq_some] at hj
  obtain ⟨a, q1, q2⟩ := h.get hj.2 hj.1
  subst e
  refine ⟨z.2, List.mem_of_getElem? hj.2, rfl, ?_⟩
  show Dp K H z.1 _
  rw [q1]
  exact .tup (sqT q2) (.cons (.str _) (.cons (.int _) .nil))
theorem TabS.but {H H' : Hp} {P d : Addr} {q : Str} {kvs : List (Key × V)} (t : LamX.TabS H P q) (hd : H d = some (.dK kvs)) (k : Kp d H H') : LamX.TabS H' P q := by
  obtain ⟨ps, h1, h2, h3⟩ := t
  refine ⟨ps, k _ _ h1 (ne_of h1 hd (by intro z; cases z)), h2, fun pos cv hc => ?_⟩
  obtain ⟨c, e1, e2⟩ := h3 pos cv hc
  exact ⟨c, e1, k _ _ e2 (ne_of e2 hd (by intro z; cases z))⟩
theorem sqL_extN {K : PySem.W.Frag} {H H2 : Hp} {a : Addr} {xs : List V} (h : SqL K H a xs) (e : LamX.ExtN H H2) : SqL K H2 a xs := by
  rcases h with (h | ⟨o, h⟩) | h
  · exact .inl (.inl (e _ _ h fun ps z => by cases z))
  · exact .inl (.inr ⟨o, e _ _ h fun ps z => by cases z⟩)
  · exact .inr h
theorem cutM {xs : List V} {r : Int} (h : 0 ≤ r) : cutV xs none (some r) = xs.take r.toNat := by
  obtain ⟨n, rfl⟩ := Int.eq_ofNat_of_zero_le h
  rw [Int.toNat_natCast]
  unfold cutV
  rw [HT.sIx_none, show HT.sIx xs.length xs.length (some (n : Int)) = min n xs.length from HT.sIx_nat xs.length xs.length n, List.drop_zero, Nat.sub_zero]
  by_cases h : n ≤ xs.length
  · rw [Nat.min_eq_left h]
  · rw [Nat.min_eq_right (by omega), List.take_of_length_le (Nat.le_refl _), List.take_of_length_le (by omega)]
theorem sqL_same {K : PySem.W.Frag} {H H2 : Hp} {a : Addr} {xs : List V} (h : SqL K H a xs) (e : Same H H2) : SqL K H2 a xs := sqL_extN h fun b o q _ => e b o q
def nobody (gs : Gs) (n : Int) : Prop := n < 1 ∨ wsum gs = 0
def sp_shares (K : PySem.W.Frag) (CI P0 : Addr) : Sp := fun vs H Q E => ∃ (a : Addr) (xs : List V) (gs : Gs) (n : Int), vs = [.ref a, .int n] ∧ SqL K H a xs ∧ PairsAt H xs gs ∧ gs.length ≤ 50 ∧ (nam gs).Nodup ∧ (∀ b ∈ gs, 0 ≤ b.2 ∧ b.2 ≤ 1000000000) ∧ n ≤ 1000 ∧ LamX.TabS H P0 shQ ∧
  (nobody gs n → ∀ H', Same H H' → E (.ref CI) none H') ∧
  (¬ nobody gs n → ∀ (r : Addr) (o : Obj) (ys : List V) (H' : Hp), LamX.ExtN H H' → LamX.TabS H' P0 shQ → H' r = some (.frz o (.tup ys)) → o.dict = none → PairsAt H' ys (shr gs n) → Q (.ref r) H')
theorem wsum_nn {gs : Gs} (h : ∀ b ∈ gs, 0 ≤ b.2) : 0 ≤ wsum gs := sum_nn (fun b : Str × Int => b.2) gs h
section
variable {P : Program} {w : World} {K : PySem.W.Frag} {mg : Str → Option Value} {base : Heap}
theorem okCX {x qual : Str} {st : Stmt} {f c : Addr} {fd : FuncData} {N ps : List Str} {k : Nat} {sp : Sp} (F : Fun K x qual st f fd) (hc : fd.code = .ref c) (S : FnScope N ps (defScope st)) (len : ∀ vs H Q E, sp vs H Q E → vs.length = ps.length)
    (hbody : ∀ (A : Around) (outer : List Env) (s : Shared) (H : Hp) (vs : List V) (Q : VK) (E : XK), Room k (A.deeper (envOfC qual (defScope st) s.heap.objs.size f (.ref c))) → sp vs H Q E →
      ∃ t, PSs (cxOf (L2.CX P w) P w K mg base N qual (defScope st) f (.ref c) A outer s H E) (defBody st) t ∧ t { nx := fun _ H' => Q .non H', rt := Q } (start N vs) H) : FnOk P w K mg base (L2.CX P w) (k + 1) f fd ps sp := by
  obtain ⟨oc, od, kV, doc, pm, an, cdv, ct, osl, rfl, lk, hcd⟩ := F.ex
  have e : cdv = .ref c := hc
  subst e
  exact fn_of lk hcd S len fun A outer s H vs Q E hr hsp => hbody A outer s H vs Q E hr hsp
set_option maxHeartbeats 4000000 in
theorem ok_shares {T : Txt K mg} {c P0 : Addr} (hcc : T.d_shares.code = .ref c) (TB0 : LamX.TabB base mg c P0) (_ : Txt K mg) : FnOk P w K mg base (L2.CX P w) 4 T.f_shares T.d_shares ["bonds", "seats"] (sp_shares K T.C_InvalidArgument P0) := by
  refine okCX T.F_shares hcc sc_shares (fun vs H Q E h => ?_) (fun A outer s H vs Q E hr h => ?_)
  · obtain ⟨a, xs, gs, n, rfl, _⟩ := h; rfl
  · obtain ⟨a, xs, gs, n, rfl, hS, hP, hl, hnd, hb, hn, hT, kE, kQ⟩ := h
    have hu := hu_of hr
    have hc0 : (Value.ref c) = .ref c := rfl
    let PT0 : List (Addr × Str) := [(P0, shQ)]
    have hxl : xs.length = gs.length := hP.len
    have ln : ∀ i, i ≤ gs.length → i < sizeLine := fun i h => small1000 (by omega)
    have hw0 := wsum_nn fun b m => (hb b m).1
    have hwh : wsum gs ≤ 1000000000 * gs.length := wsum_le fun b m => (hb b m).2
    refine ⟨_, (pss_cons (ps_set (i := 2) sc_shares.nd rfl (Or.inr rfl) (pe_callB (cr_sum rfl) (by rfl) T.z_sum boot_sum (pa_cons (pe_lc (own := [("_", 10), ("bond", 9)]) (g := (gTup K 2 (gCons (gName 10) (gCons (gName 9) gNil)))) (tt := tYes) (te := (tVar 9)) rfl sc_shares.nd (pi_list (pv 0)) (blkOk_by (own := [("_", 10), ("bond", 9)]) (N := ["bonds", "seats", "bonded", "rows", "seated", "remainders", "by_remainder", "left", "guard", "bond", "_"]) (sc := defScope s_shares) (by decide +kernel)) (fun _ _ _ _ _ => (pg_tup rfl (pgs_cons (pg_name (i := 10) sc_shares.nd rfl (Or.inl rfl)) (pgs_cons (pg_name (i := 9) sc_shares.nd rfl (Or.inl rfl)) pgs_nil)))) (fun _ _ _ _ _ => pts_nil) (fun _ _ _ _ _ => (pv 9))) pa_nil)))
      (pss_cons (ps_if (PW.pt (pw_or (pt_cmpR op_lt (pv 1) pe_int (nomark _)) (pw_or1 (pt_cmpR op_eq (pv 2) pe_int (nomark _))))) (pss_one (ps_raise rfl (takes_of rfl rfl rfl rfl) (pmk_own PySem.F.excBase_ValueError T.xe_InvalidArgument T.g_InvalidArgument T.ke_InvalidArgument (raises_own T.be_InvalidArgument T.te_InvalidArgument) (by exact rfl)))) pss_nil)
      (pss_cons (ps_set (i := 3) sc_shares.nd rfl (Or.inl rfl) (pe_callB (cr_sortedDt (hr65 hr)) (by rfl) T.z_sorted boot_sorted (pa_cons (pv 0) pa_nil)))
      (pss_cons (ps_set (i := 4) sc_shares.nd rfl (Or.inr rfl) (pe_dc (own := [("guard", 8), ("bond", 9)]) (g := (gTup K 2 (gCons (gName 8) (gCons (gName 9) gNil)))) (tt := tYes) rfl sc_shares.nd (pi_list (pv 3)) (blkOk_by (own := [("guard", 8), ("bond", 9)]) (N := ["bonds", "seats", "bonded", "rows", "seated", "remainders", "by_remainder", "left", "guard", "bond", "_"]) (sc := defScope s_shares) (by decide +kernel)) (fun _ _ _ _ _ => (pg_tup rfl (pgs_cons (pg_name (i := 8) sc_shares.nd rfl (Or.inl rfl)) (pgs_cons (pg_name (i := 9) sc_shares.nd rfl (Or.inl rfl)) pgs_nil)))) (fun _ _ _ _ _ => pts_nil) (fun _ _ _ _ _ => (pv 8)) (fun _ _ _ _ _ => (pe_op op_fdivW (pe_op op_mul (pv 1) (pv 9)) (pv 2)))))
      (pss_cons (ps_set (i := 5) sc_shares.nd rfl (Or.inr rfl) (pe_dc (own := [("guard", 8), ("bond", 9)]) (g := (gTup K 2 (gCons (gName 8) (gCons (gName 9) gNil)))) (tt := tYes) rfl sc_shares.nd (pi_list (pv 3)) (blkOk_by (own := [("guard", 8), ("bond", 9)]) (N := ["bonds", "seats", "bonded", "rows", "seated", "remainders", "by_remainder", "left", "guard", "bond", "_"]) (sc := defScope s_shares) (by decide +kernel)) (fun _ _ _ _ _ => (pg_tup rfl (pgs_cons (pg_name (i := 8) sc_shares.nd rfl (Or.inl rfl)) (pgs_cons (pg_name (i := 9) sc_shares.nd rfl (Or.inl rfl)) pgs_nil)))) (fun _ _ _ _ _ => pts_nil) (fun _ _ _ _ _ => (pv 8)) (fun _ _ _ _ _ => (pe_op op_mod (pe_op op_mul (pv 1) (pv 9)) (pv 2)))))
      (pss_cons (ps_set (i := 6) sc_shares.nd rfl (Or.inl rfl) (LamD.pe_sortDL (T := PT0) (j := 5) TB0 hc0 (List.mem_singleton.mpr rfl) (fun p hp _ => by rw [List.mem_singleton.mp hp]; rfl) (by rfl) (hr.mono (by decide)) (by rfl) T.z_sorted (pa_cons (pv 5) pa_nil) rfl rfl rfl rfl rfl rfl (by decide +kernel) rfl rfl (by decide +kernel) (fun _ _ _ _ _ _ => rfl) (by decide +kernel) (by decide +kernel) (by decide +kernel)))
      (pss_cons (ps_set (i := 7) sc_shares.nd rfl (Or.inl rfl) (pe_op op_sub (pv 1) (pe_sumVals rfl (by rfl) T.z_sum (pv 4))))
      (pss_cons (ps_for (passes_of rfl) rfl (pi_list (pe_slice sl_list (pv 6) po_none (po_some (pv 7)))) (pg_name (i := 8) sc_shares.nd rfl (Or.inl rfl))
        (pss_one (ps_daug hu (pv 4) (pv 8) pe_int in_add (fun _ _ _ => rfl))))
      (pss_one (ps_ret (pe_callTy cq_tupF (by rfl) T.z_tuple boot_tuple (pa_cons (pe_lock (pe_lc (own := [("guard", 8)]) (g := (gName 8)) (tt := (tTest (tOp (rI0 fun i j => .bl (decide (j < i))) (tDGet (tVar 4) (tVar 8)) (tC (.int 0))))) (te := (tTup (tCons (tVar 8) (tCons (tDGet (tVar 4) (tVar 8)) tNil)))) rfl sc_shares.nd (pi_keys (pv 4)) (blkOk_by (own := [("guard", 8)]) (N := ["bonds", "seats", "bonded", "rows", "seated", "remainders", "by_remainder", "left", "guard", "bond", "_"]) (sc := defScope s_shares) (by decide +kernel)) (fun _ _ _ _ _ => (pg_name (i := 8) sc_shares.nd rfl (Or.inl rfl))) (fun _ _ _ _ _ => (pts_one (pt_cmpR op_gt (pe_dget hu (pv 4) (pv 8) (fun _ _ => rfl)) pe_int (nomark _)))) (fun _ _ _ _ _ => (pe_tup (pa_cons (pv 8) (pa_cons (pe_dget hu (pv 4) (pv 8) (fun _ _ => rfl)) pa_nil)))))) pa_nil)))))))))))), ?_⟩
    (dsimp only [cxOf, Cx.nox, Cx.wish, L2.start, List.map, List.length, List.replicate, List.cons_append, List.nil_append, List.append_eq, Nat.reduceSub, Nat.reduceAdd])
    walk_at "my_rd"
    refine q_lcL hS fun D nD => ⟨fun i H2 => Same H H2 ∧ H2 D = some (.lst (((gs.take i).map (·.2)).map V.int)), ⟨Same.new (Same.refl _) nD, upd_same⟩, fun i H2 _ ⟨sm, _⟩ => sqL_same hS sm, fun i x H2 hx ⟨sm, hD⟩ => ?_, fun H2 ⟨sm, hD⟩ => ?_⟩
    · obtain ⟨g, b, hg, rfl, hgb⟩ := hP.item hx
      refine q_gTup (sqT (sm _ _ hgb)) rfl ?_
      walk_at "my_rd"
      refine ⟨rfl, ?_⟩
      walk_at "my_rd"
      refine q_accK hD (by rw [List.length_map, List.length_map, List.length_take]; exact ln _ (by omega)) ⟨Same.new sm nD, ?_⟩
      rw [upd_same, take_snoc hg, List.map_append, List.map_append]
      rfl
    rw [hxl, List.take_length] at hD
    walk_at "my_rd"
    refine q_sum (sqL hD) ?_
    rw [show (gs.map (·.2)).sum = wsum gs from rfl]
    have hT2 := hT.ext sm
    have hP2 := hP.same sm
    have hS2 := sqL_same hS sm
    walk_at "my_rd"
    have fin : nobody gs n ∨ ¬ nobody gs n := Classical.em _
    rcases fin with hno | hyes
    · refine q_or2 (fun h1 => ?_) (fun h1 => ?_)
      · walk_at "my_rd"
        exact kE hno _ sm
      · walk_at "my_rd"
        refine q_if2 (fun h2 => ?_) (fun h2 => ?_)
        · walk_at "my_rd"
          exact kE hno _ sm
        · rcases hno with q | q
          · exact absurd q (dec_f h1)
          · exact absurd q (dec_f h2)
    have hn1 : ¬ n < 1 := fun q => hyes (.inl q)
    have hw : ¬ wsum gs = 0 := fun q => hyes (.inr q)
    have ok : BdOk gs n := ⟨hnd, fun b m => (hb b m).1, by omega, by omega⟩
    have kQ := kQ hyes
    clear hD hyes kE
    rw [decide_eq_false hn1]
    walk_at "my_rd"
    rw [decide_eq_false hw]
    walk_at "my_rd"
    obtain ⟨gs', hsP, hsn, hsp⟩ := sortPairs hP2 hnd
    refine ⟨a, zipB xs gs, rfl, by rw [zipB_fst hP2]; exact hS2, fun b m => ?_, ?_, ?_, ?_, fun b m => ?_, fun rw_ nrw => ?_⟩
    · obtain ⟨g, _, e1, e2⟩ := zipB_mem (K := K) hP2 m
      rw [e1]; exact e2
    · intro d hd d' hd'
      obtain ⟨b, m, rfl⟩ := List.mem_map.mp hd
      obtain ⟨b', m', rfl⟩ := List.mem_map.mp hd'
      obtain ⟨g, _, e1, _⟩ := zipB_mem (K := K) hP2 m
      obtain ⟨g', _, e1', _⟩ := zipB_mem (K := K) hP2 m'
      rw [e1, e1']
      simp [bD, PySem.W.alike, PySem.W.alikeAll]
    · refine .inl fun d hd => ?_
      obtain ⟨b, m, rfl⟩ := List.mem_map.mp hd
      obtain ⟨g, _, e1, _⟩ := zipB_mem (K := K) hP2 m
      exact ⟨_, _, e1⟩
    · unfold zipB
      rw [List.length_map, List.length_zip]
      omega
    · obtain ⟨g, _, e1, _⟩ := zipB_mem (K := K) hP2 m
      rw [e1]
      simp [bD, PyData.depth, PyData.depthAll]
    have hX3 : Same H (upd H2 rw_ (.lst (((zipB xs gs).mergeSort (PySem.W.dataLe false (·.2))).map (·.1)))) := fun b o q => upd_new nrw (sm b o q)
    have hT3 : LamX.TabS (upd H2 rw_ (.lst (((zipB xs gs).mergeSort (PySem.W.dataLe false (·.2))).map (·.1)))) P0 shQ := hT2.ext fun b o q => upd_new nrw q
    have hP3 := hsP.new (o := .lst (((zipB xs gs).mergeSort (PySem.W.dataLe false (·.2))).map (·.1))) nrw
    have hR3 : upd H2 rw_ (.lst (((zipB xs gs).mergeSort (PySem.W.dataLe false (·.2))).map (·.1))) rw_ = some (.lst (((zipB xs gs).mergeSort (PySem.W.dataLe false (·.2))).map (·.1))) := upd_same
    generalize ((zipB xs gs).mergeSort (PySem.W.dataLe false (·.2))).map (·.1) = ys at hX3 hT3 hP3 hR3 ⊢
    generalize upd H2 rw_ (.lst ys) = H3 at hX3 hT3 hP3 hR3 ⊢
    clear hsP hS2 hP2 hT2 nrw sm hS hP hT
    have hyl : ys.length = gs'.length := hP3.len
    have hgl : gs'.length = gs.length := hsp.length_eq
    have hgr : ∀ (i : Nat) (g : Str × Int), gs'[i]? = some g → getRow gs g.1 = g.2 := fun i g hg => getRow_mem hnd g (hsp.subset (List.mem_of_getElem? hg))
    have hnd' : (nam gs').Nodup := by rw [hsn]; exact (nsrt_perm _).nodup_iff.mpr hnd
    have hks : (nam gs').length = gs.length := by unfold nam; rw [List.length_map]; exact hgl
    have hnk : ∀ (i : Nat) (g : Str × Int), gs'[i]? = some g → (nam gs')[i]? = some g.1 := fun i g hg => by unfold nam; rw [List.getElem?_map, hg]; rfl
    have hnew : ∀ (i : Nat) (g : Str × Int), gs'[i]? = some g → g.1 ∉ (nam gs').take i := fun i g hg hm => by
      have h3 : ((nam gs').take (i + 1)).Nodup := (List.take_sublist _ _).nodup hnd'
      rw [take_snoc (hnk i g hg)] at h3
      exact (List.nodup_append.mp h3).2.2 g.1 hm g.1 (by simp) rfl
    walk_at "my_rd"
    unfold tDc iList
    walk_at "my_rd"
    have hmul : ∀ (i : Nat) (g : Str × Int), gs'[i]? = some g → 0 ≤ n * g.2 ∧ n * g.2 ≤ 1000000000000 ∧ 0 ≤ g.2 ∧ g.2 ≤ 1000000000 := fun i g hg => by
      obtain ⟨h1, h2⟩ := hb g (hsp.subset (List.mem_of_getElem? hg))
      have h3 := Int.mul_nonneg (show 0 ≤ n by omega) h1
      have h4 : n * g.2 ≤ 1000 * 1000000000 := Int.mul_le_mul hn h2 h1 (by omega)
      exact ⟨h3, by omega, h1, h2⟩
    have hw1 : 0 < wsum gs := ok.w
    have hw2 : wsum gs ≤ 50000000000 := by omega
    refine ⟨rw_, rfl, ⟨ys, sqL hR3⟩, fun D nD => ?_⟩
    refine dc_it (walk_list (xs := ys)) (fun i H4 => Same H3 H4 ∧ H4 D = some (.dK (rowK (rowF ((nam gs').take i) (bas gs n))))) ⟨Same.new (Same.refl _) nD, upd_same⟩ (fun i H4 _ ⟨sm, _⟩ => sqL (sm _ _ hR3)) ?_ ?_
    · rintro i v H4 H5 hi ⟨sm, hD⟩ ⟨rfl, hv⟩
      obtain ⟨g, b, hg, rfl, hgb⟩ := hP3.item hv
      refine q_gTup (sqT (sm _ _ hgb)) rfl ?_
      walk_at "my_rd"
      refine ⟨rfl, ?_⟩
      obtain ⟨hm0, hm1, hg0, hg1⟩ := hmul i g hg
      walk_at "my_rd"
      refine iteT ?_
      walk_at "my_rd"
      refine q_I (wide_div (b := 40) hw1 (by omega) (by decide) (by decide)) ?_
      refine ⟨_, .inr g.1, rfl, hD, by rw [rowF_len, List.length_take]; exact ln _ (by omega), Same.new sm nD, ?_⟩
      rw [upd_same, take_snoc (hnk i g hg), ← rowF_new (hnew i g hg)]
      unfold bas
      rw [hgr i g hg]
    rintro H4 ⟨sm4, hD4⟩
    rw [hyl, hgl, List.take_of_length_le (by rw [hks]; exact Nat.le_refl _)] at hD4
    have hX4 : Same H H4 := hX3.trans sm4
    have hT4 := hT3.ext sm4
    have hR4 := sm4 _ _ hR3
    have hP4 := hP3.same sm4
    have hD0 : H D = none := Same.free hX3 nD
    clear sm4 hX3 hT3 hR3 hP3
    walk_at "my_rd"
    refine ⟨rw_, rfl, ⟨ys, sqL hR4⟩, fun R nR => ?_⟩
    refine dc_it (walk_list (xs := ys)) (fun i H6 => Same H4 H6 ∧ H6 R = some (.dK (rowK (rowF ((nam gs').take i) (rmd gs n))))) ⟨Same.new (Same.refl _) nR, upd_same⟩ (fun i H6 _ ⟨sm, _⟩ => sqL (sm _ _ hR4)) ?_ ?_
    · rintro i v H6 H5 hi ⟨sm, hD⟩ ⟨rfl, hv⟩
      obtain ⟨g, b, hg, rfl, hgb⟩ := hP4.item hv
      refine q_gTup (sqT (sm _ _ hgb)) rfl ?_
      walk_at "my_rd"
      refine ⟨rfl, ?_⟩
      obtain ⟨hm0, hm1, hg0, hg1⟩ := hmul i g hg
      walk_at "my_rd"
      refine iteT ?_
      walk_at "my_rd"
      refine ⟨_, .inr g.1, rfl, hD, by rw [rowF_len, List.length_take]; exact ln _ (by omega), Same.new sm nR, ?_⟩
      rw [upd_same, take_snoc (hnk i g hg), ← rowF_new (hnew i g hg)]
      unfold rmd
      rw [hgr i g hg]
    rintro H6 ⟨sm6, hR6⟩
    rw [hyl, hgl, List.take_of_length_le (by rw [hks]; exact Nat.le_refl _)] at hR6
    have hX6 : Same H H6 := hX4.trans sm6
    have hT6 := hT4.ext sm6
    have hD6 := sm6 _ _ hD4
    clear sm6 hX4 hT4 hR4 hP4 hD4
    walk_at "my_rd"
    unfold LamD.tSortDL
    walk_at "my_rd"
    have hz : ∀ y ∈ nam gs', valV (rowK (rowF (nam gs') (rmd gs n))) (.inr y) = some (.int (rmd gs n y)) := fun y hy => rowF_val hy
    refine ⟨R, R, rowK (rowF (nam gs') (rmd gs n)), rowK (rowF (nam gs') (rmd gs n)), nam gs', rmd gs n, rfl, hR6, rowF_keys _ _, by omega, rfl, fun q hq => ?_, hR6, hz, fun L H7 e7 t7 nL => ?_⟩
    · rw [List.mem_singleton.mp hq]; exact hT6
    have hL : ((nam gs').mergeSort fun a b => decide (-(rmd gs n a) ≤ -(rmd gs n b))) = rsort (rmd gs n) (nsrt (nam gs)) := by rw [hsn]; rfl
    rw [hL]
    have hT7 : LamX.TabS (upd H7 L (.lst ((rsort (rmd gs n) (nsrt (nam gs))).map V.str))) P0 shQ := (t7 _ (List.mem_singleton.mpr rfl)).ext fun b o q => upd_new nL q
    have hX7 : LamX.ExtN H (upd H7 L (.lst ((rsort (rmd gs n) (nsrt (nam gs))).map V.str))) := fun b o q ne => upd_new nL (e7 b o (hX6 b o q) ne)
    have hD7 : upd H7 L (.lst ((rsort (rmd gs n) (nsrt (nam gs))).map V.str)) D = some (.dK (rowK (rowF (nam gs') (bas gs n)))) := upd_new nL (e7 _ _ hD6 fun ps z => by cases z)
    have hL7 : upd H7 L (.lst ((rsort (rmd gs n) (nsrt (nam gs))).map V.str)) L = some (.lst ((rsort (rmd gs n) (nsrt (nam gs))).map V.str)) := upd_same
    generalize hW : upd H7 L (.lst ((rsort (rmd gs n) (nsrt (nam gs))).map V.str)) = H8 at hT7 hX7 hD7 hL7 ⊢
    clear hW e7 t7 nL hR6 hD6 hT6 hX6 hz hL nR nD
    have hl0 := lft_lo ok
    have hl1 := lft_hi ok
    walk_at "my_rd"
    refine q_sumVals ?_
    walk_at "my_rd"
    refine q_sumK hD7 (rowF_vals _ _) ?_
    walk_at "my_rd"
    have hlf : n - ((nam gs').map (bas gs n)).sum = lft gs n := by unfold lft; rw [hsn, sum_perm ((nsrt_perm (nam gs)).map _)]
    rw [hlf]
    walk_at "my_rd"
    refine q_slL (sqL hL7) fun sl nsl => ?_
    rw [cutM hl0, ← List.map_take]
    have hT9 := hT7.ext (H' := upd H8 sl (.lst (((rsort (rmd gs n) (nsrt (nam gs))).take (lft gs n).toNat).map V.str))) fun b o q => upd_new nsl q
    have hX9 : LamX.ExtN H (upd H8 sl (.lst (((rsort (rmd gs n) (nsrt (nam gs))).take (lft gs n).toNat).map V.str))) := fun b o q ne => upd_new nsl (hX7 b o q ne)
    have hD9 : upd H8 sl (.lst (((rsort (rmd gs n) (nsrt (nam gs))).take (lft gs n).toNat).map V.str)) D = some (.dK (rowK (rowF (nam gs') (bas gs n)))) := upd_new nsl hD7
    have hs9 : upd H8 sl (.lst (((rsort (rmd gs n) (nsrt (nam gs))).take (lft gs n).toNat).map V.str)) sl = some (.lst (((rsort (rmd gs n) (nsrt (nam gs))).take (lft gs n).toNat).map V.str)) := upd_same
    have hch : ∀ y ∈ nam gs', (y ∈ (rsort (rmd gs n) (nsrt (nam gs))).take (lft gs n).toNat ↔ (rnk gs n y : Int) < lft gs n) := fun y hy => chosen_ ok ((nsrt_perm _).mem_iff.mp (by rw [← hsn]; exact hy))
    have hcn : ((rsort (rmd gs n) (nsrt (nam gs))).take (lft gs n).toNat).Nodup := (List.take_sublist _ _).nodup ((rsort_perm _ _).nodup_iff.mpr ((nsrt_perm _).nodup_iff.mpr hnd))
    have hcm : ∀ y ∈ (rsort (rmd gs n) (nsrt (nam gs))).take (lft gs n).toNat, y ∈ nam gs' := fun y hy => by rw [hsn]; exact (rsort_perm _ _).subset ((List.take_sublist _ _).subset hy)
    generalize (rsort (rmd gs n) (nsrt (nam gs))).take (lft gs n).toNat = ch at hT9 hX9 hD9 hs9 hch hcn hcm ⊢
    generalize upd H8 sl (.lst (ch.map V.str)) = H9 at hT9 hX9 hD9 hs9 ⊢
    clear hT7 hX7 hD7 hL7 nsl
    have hsD : sl ≠ D := ne_of hs9 hD9 (by intro z; cases z)
    walk_at "my_rd"
    refine q_forL (sqL hs9) (fun i σ H' => ∃ v8 : Option V, σ = [some (.ref a), some (.int n), some (.int (wsum gs)), some (.ref rw_), some (.ref D), some (.ref R), some (.ref L), some (.int (lft gs n)), v8, none, none] ∧ Kp D H9 H' ∧ H' D = some (.dK (rowK (rowF (nam gs') fun y => bas gs n y + if y ∈ ch.take i then 1 else 0))))
      ⟨none, rfl, fun b o q _ => q, by rw [hD9]; congr 4; funext y; simp⟩ (fun i σ H' _ ⟨_, _, kp, _⟩ => sqL (kp.get hs9 hsD)) ?_ ?_
    · rintro i v σ H' hv ⟨v8, rfl, kp, hD'⟩
      rw [List.getElem?_map] at hv
      cases ey : ch[i]? with
      | none => rw [ey] at hv; cases hv
      | some y =>
        rw [ey] at hv
        obtain rfl : V.str y = v := Option.some.inj hv
        have hym := hcm y (List.mem_of_getElem? ey)
        have hyn : y ∉ ch.take i := fun hm => by
          have h3 : (ch.take (i + 1)).Nodup := (List.take_sublist _ _).nodup hcn
          rw [take_snoc ey] at h3
          exact (List.nodup_append.mp h3).2.2 y hm y (by simp) rfl
        walk_at "my_rd"
        refine q_daugK hD' (rowF_val hym) ?_
        walk_at "my_rd"
        refine q_daugA hD' (by rw [rowF_len, hks]; exact ln _ (Nat.le_refl _)) ?_
        walk_at "my_rd"
        refine ⟨_, rfl, fun b o q ne => upd_other ne (kp b o q ne), ?_⟩
        rw [upd_same, rowF_put hym]
        congr 3
        refine rowF_congr fun z hz => ?_
        rw [take_snoc ey]
        by_cases e : z = y
        · subst e
          simp [hyn]
        · simp [e]
    rintro σ H' ⟨v8, rfl, kp, hD'⟩
    rw [List.length_map, List.take_length, rowF_congr (g := seat gs n) (fun y hy => by
      unfold seat
      by_cases q : y ∈ ch
      · rw [if_pos q, if_pos ((hch y hy).mp q)]
      · rw [if_neg q, if_neg fun z => q ((hch y hy).mpr z)])] at hD'
    have hT10 := TabS.but hT9 hD9 kp
    have hX10 : LamX.ExtN H H' := fun b o q ne => kp b o (hX9 b o q ne) (ne_of_none q hD0)
    clear hT9 hX9 hD9 hs9 kp hch hcn hcm
    walk_at "my_rd"
    refine ⟨D, _, hD', trivial, fun od => ?_⟩
    have hF : upd H' D (.frz od (.dK (rowK (rowF (nam gs') (seat gs n))))) D = some (.frz od (.dK (rowK (rowF (nam gs') (seat gs n))))) := upd_same
    unfold tLc iKeys
    refine q_var (v := .ref D) rfl ⟨D, od, rfl, .inl ⟨_, hF, fun B nB => ?_⟩⟩
    generalize hHF : upd H' D (.frz od (.dK (rowK (rowF (nam gs') (seat gs n))))) = HF at nB hF
    have keep : ∀ b o, H' b = some o → b ≠ D → HF b = some o := fun b o q n => by rw [← hHF]; exact upd_other n q
    have nBD : B ≠ D := fun e => by rw [e, hF] at nB; cases nB
    refine lc_it walk_keys (fun i H2 => Same HF H2 ∧ ∃ zs, H2 B = some (.lst zs) ∧ PairsAt H2 zs ((((nam gs').take i).map fun y => (y, seat gs n y)).filter fun p => decide (0 < p.2))) ⟨Same.new (Same.refl _) nB, [], upd_same, PairsAt.nil⟩ (fun i H2 _ ⟨sm, _⟩ => sm _ _ hF) ?_ ?_
    · rintro i v H2 H3 hi ⟨sm, zs, hB, hP⟩ ⟨rfl, k2, v2, hkv, rfl⟩
      obtain ⟨y, hy, rfl, rfl⟩ := rowF_item hkv
      have hym := List.mem_of_getElem? hy
      have hzl : zs.length < sizeLine := by
        rw [hP.len]
        have h1 := List.length_filter_le (fun p : Str × Int => decide (0 < p.2)) (((nam gs').take i).map fun y => (y, seat gs n y))
        rw [List.length_map, List.length_take] at h1
        exact ln _ (by omega)
      refine q_gName ⟨rfl, ?_⟩
      walk_at "my_rd"
      refine ⟨D, .int (seat gs n y), rfl, .inl ⟨_, .inr y, .inr ⟨od, sm _ _ hF⟩, rfl, (rowF_val hym).symm⟩, ?_⟩
      walk_at "my_rd"
      by_cases q : 0 < seat gs n y
      · rw [decide_eq_true q]
        refine iteT ?_
        walk_at "my_rd"
        refine ⟨D, .int (seat gs n y), rfl, .inl ⟨_, .inr y, .inr ⟨od, sm _ _ hF⟩, rfl, (rowF_val hym).symm⟩, ?_⟩
        walk_at "my_rd"
        refine q_tupK (Nat.le_of_ble_eq_true rfl) fun U nU => ?_
        refine ⟨_, upd_new nU hB, hzl, fun b o z => upd_other (ne_of_none z nB) (upd_new nU (sm _ _ z)), zs ++ [.ref U], upd_same, ?_⟩
        rw [take_snoc hy, List.map_append, List.filter_append]
        show PairsAt _ _ (_ ++ List.filter _ [(y, seat gs n y)])
        rw [List.filter_cons_of_pos (by simpa using q)]
        exact ((hP.new nU).snoc (g := (y, seat gs n y)) upd_same).updL (upd_new nU hB)
      · rw [decide_eq_false q]
        refine iteF ?_
        refine ⟨sm, zs, hB, ?_⟩
        rw [take_snoc hy, List.map_append, List.filter_append]
        show PairsAt _ _ (_ ++ List.filter _ [(y, seat gs n y)])
        rw [List.filter_cons_of_neg (by simpa using q)]
        simpa using hP
    · rintro H2 ⟨sm, zs, hB, hP⟩
      rw [rowF_len, List.take_of_length_le (Nat.le_refl _)] at hP
      refine ⟨sm _ _ hF, ?_⟩
      have hPf : PairsAt (upd H2 D (.dK (rowK (rowF (nam gs') (seat gs n))))) zs (shr gs n) := by
        unfold shr
        rw [← hsn]
        refine hP.mono fun b ys q => upd_other ?_ q
        rintro rfl
        rw [sm _ _ hF] at q
        cases q
      have kpD : Kp D H' (upd H2 D (.dK (rowK (rowF (nam gs') (seat gs n))))) := fun b o q ne => upd_other ne (sm _ _ (keep b o q ne))
      have hT12 := TabS.but hT10 hD' kpD
      have hX12 : LamX.ExtN H (upd H2 D (.dK (rowK (rowF (nam gs') (seat gs n))))) := fun b o q ne => kpD b o (hX10 b o q ne) (ne_of_none q hD0)
      have hB12 : upd H2 D (.dK (rowK (rowF (nam gs') (seat gs n)))) B = some (.lst zs) := upd_other nBD hB
      generalize upd H2 D (.dK (rowK (rowF (nam gs') (seat gs n)))) = H12 at hPf hT12 hX12 hB12 ⊢
      walk_at "my_rd"
      refine ⟨B, zs, rfl, sqL hB12, fun r o nr ho => ?_⟩
      walk_at "my_rd"
      exact kQ r o zs _ (fun b o q ne => upd_new nr (hX12 b o q ne)) (hT12.ext fun b o q => upd_new nr q) upd_same ho (hPf.new nr)
end

local macro_rules | `(tactic| walk_at "my_rd") => `(tactic| (repeat first
  | with_reducible refine q_tCons ?_
  | ((with_reducible apply q_var); (focus (exact rfl)))
  | with_reducible refine q_c ?_
  | ((with_reducible apply q_nxE); (focus (with_reducible exact rfl)))
  | with_reducible refine q_bK ?_
  | with_reducible refine q_call ?_
  | with_reducible refine q_callK ?_
  | with_reducible refine q_tNil ?_
  | with_reducible refine q_cb ?_
  | with_reducible refine q_seq ?_
  | with_reducible refine q_asg ?_
  | with_reducible refine q_gName ?_
  | with_reducible refine q_op ?_
  | with_reducible refine q_test ?_
  | with_reducible refine q_tB ?_
  | with_reducible refine q_ifS ?_
  | with_reducible refine q_ret ?_
  | ((with_reducible apply q_rtE); (focus (with_reducible exact rfl)))
  | with_reducible refine q_next ?_
  | with_reducible refine q_ifF ?_
  | with_reducible refine q_ifT ?_
  | with_reducible refine q_drop ?_
  | with_reducible refine q_and ?_
  | with_reducible refine q_or ?_
  | with_reducible refine q_andT ?_
  | with_reducible refine q_andF ?_
  | with_reducible refine q_orF ?_
  | with_reducible refine q_orT ?_
  | with_reducible refine q_andV ?_
  | with_reducible refine q_andVT ?_
  | with_reducible refine q_andVF ?_
  | with_reducible refine q_orV ?_
  | with_reducible refine q_gCons ?_
  | with_reducible refine q_gNil ?_
  | with_reducible refine q_tup ?_
  | with_reducible refine q_lst ?_
  | with_reducible refine q_not ?_
  | with_reducible refine q_notKT ?_
  | with_reducible refine q_notKF ?_
  | with_reducible refine q_I0 ?_
  | with_reducible refine q_eqI ?_
  | with_reducible refine q_neI ?_
  | ((with_reducible refine q_I ?_ ?_); first | decide | omega | exact ⟨by omega, by omega⟩ | exact ⟨by decide, by decide⟩ | exact .inl ⟨by omega, by omega⟩ | exact .inr ⟨by omega, by omega⟩ | exact .inr ⟨by decide, by decide⟩)
  | with_reducible refine q_eqS ?_
  | with_reducible refine q_neS ?_
  | with_reducible refine q_brk ?_
  | with_reducible refine q_ct ?_
  | ((with_reducible apply q_bkE); (focus (with_reducible exact rfl)))
  | ((with_reducible apply q_cnE); (focus (with_reducible exact rfl)))
  | with_reducible refine q_retN ?_
  | with_reducible refine q_gSub ?_
  | with_reducible refine q_for ?_
  | with_reducible refine q_iList ?_
  | with_reducible refine q_iTup ?_
  | with_reducible refine q_iRng1 ?_
  | with_reducible refine q_notK ?_
  | with_reducible refine q_orVT ?_
  | with_reducible refine q_orVF ?_
  | with_reducible refine q_notV ?_
  | with_reducible refine q_notVK ?_
  | with_reducible refine q_ifE ?_
  | with_reducible refine q_ifET ?_
  | with_reducible refine q_ifEF ?_
  | with_reducible refine q_yes ?_
  | with_reducible refine q_un ?_
  | with_reducible refine q_rU ?_
  | with_reducible refine q_abs ?_
  | with_reducible refine q_int1 ?_
  | with_reducible refine q_bm ?_
  | with_reducible refine q_bm0 ?_
  | with_reducible refine q_lc ?_
  | with_reducible refine q_keepT ?_
  | with_reducible refine q_keepF ?_
  | ((with_reducible apply q_aug); (focus (exact rfl)))
  | with_reducible refine q_ipI ?_
  | with_reducible refine q_chain ?_
  | with_reducible refine q_pairC ?_
  | with_reducible refine q_pairsK ?_
  | with_reducible refine q_pairN ?_
  | with_reducible refine q_fld ?_
  | with_reducible refine q_sFld ?_
  | with_reducible refine q_meth ?_
  | with_reducible refine q_makeK ?_
  | with_reducible refine q_isBl ?_
  | with_reducible refine q_notBl ?_
  | with_reducible refine q_sl ?_
  | with_reducible refine q_noPart ?_
  | with_reducible refine q_part ?_
  | with_reducible refine q_partK ?_
  | ((with_reducible apply q_mulStr); (focus (decide +kernel)))
  | with_reducible refine q_chT ?_
  | with_reducible refine q_chF ?_
  | with_reducible refine q_ord ?_
  | with_reducible refine q_iStr0 ?_
  | with_reducible refine q_iStr ?_
  | with_reducible refine q_tDIn ?_
  | with_reducible refine q_tDNotIn ?_
  | with_reducible refine q_tDGet ?_
  | with_reducible refine q_tDGet2 ?_
  | with_reducible refine q_tDGet1 ?_
  | with_reducible refine q_tDSetd ?_
  | ((with_reducible apply q_dG2a); (focus ((repeat first | (with_reducible exact upd_same) | (with_reducible assumption) | (with_reducible apply upd_new (by assumption)) | (with_reducible apply upd_other (by first | assumption | exact Ne.symm (by assumption))) | (with_reducible refine' Kp.get (by assumption) ?_ (by first | assumption | exact Ne.symm (by assumption))) | (with_reducible apply Same.get (by assumption))); done)))
  | ((with_reducible apply q_dSda); (focus ((repeat first | (with_reducible exact upd_same) | (with_reducible assumption) | (with_reducible apply upd_new (by assumption)) | (with_reducible apply upd_other (by first | assumption | exact Ne.symm (by assumption))) | (with_reducible refine' Kp.get (by assumption) ?_ (by first | assumption | exact Ne.symm (by assumption))) | (with_reducible apply Same.get (by assumption))); done)))
  | with_reducible refine q_sDPut ?_
  | ((with_reducible apply q_dInS); (focus ((repeat first | (with_reducible exact upd_same) | (with_reducible assumption) | (with_reducible apply upd_new (by assumption)) | (with_reducible apply upd_other (by first | assumption | exact Ne.symm (by assumption))) | (with_reducible refine' Kp.get (by assumption) ?_ (by first | assumption | exact Ne.symm (by assumption))) | (with_reducible apply Same.get (by assumption))); done)))
  | ((with_reducible apply q_dNInS); (focus ((repeat first | (with_reducible exact upd_same) | (with_reducible assumption) | (with_reducible apply upd_new (by assumption)) | (with_reducible apply upd_other (by first | assumption | exact Ne.symm (by assumption))) | (with_reducible refine' Kp.get (by assumption) ?_ (by first | assumption | exact Ne.symm (by assumption))) | (with_reducible apply Same.get (by assumption))); done)))
  | ((with_reducible apply q_dInI); (focus ((repeat first | (with_reducible exact upd_same) | (with_reducible assumption) | (with_reducible apply upd_new (by assumption)) | (with_reducible apply upd_other (by first | assumption | exact Ne.symm (by assumption))) | (with_reducible refine' Kp.get (by assumption) ?_ (by first | assumption | exact Ne.symm (by assumption))) | (with_reducible apply Same.get (by assumption))); done)))
  | ((with_reducible apply q_dNInI); (focus ((repeat first | (with_reducible exact upd_same) | (with_reducible assumption) | (with_reducible apply upd_new (by assumption)) | (with_reducible apply upd_other (by first | assumption | exact Ne.symm (by assumption))) | (with_reducible refine' Kp.get (by assumption) ?_ (by first | assumption | exact Ne.symm (by assumption))) | (with_reducible apply Same.get (by assumption))); done)))
  | ((with_reducible apply q_bmL); (focus ((repeat first | (with_reducible exact upd_same) | (with_reducible assumption) | (with_reducible apply upd_new (by assumption)) | (with_reducible apply upd_other (by first | assumption | exact Ne.symm (by assumption))) | (with_reducible refine' Kp.get (by assumption) ?_ (by first | assumption | exact Ne.symm (by assumption))) | (with_reducible apply Same.get (by assumption))); done)))
  | ((with_reducible apply q_bmL0); (focus ((repeat first | (with_reducible exact upd_same) | (with_reducible assumption) | (with_reducible apply upd_new (by assumption)) | (with_reducible apply upd_other (by first | assumption | exact Ne.symm (by assumption))) | (with_reducible refine' Kp.get (by assumption) ?_ (by first | assumption | exact Ne.symm (by assumption))) | (with_reducible apply Same.get (by assumption))); done)))
  | ((with_reducible apply q_ixLt); (focus ((repeat first | (with_reducible exact upd_same) | (with_reducible assumption) | (with_reducible apply upd_new (by assumption)) | (with_reducible apply upd_other (by first | assumption | exact Ne.symm (by assumption))) | (with_reducible refine' Kp.get (by assumption) ?_ (by first | assumption | exact Ne.symm (by assumption))) | (with_reducible apply Same.get (by assumption))); done)); (focus (exact rfl)))
  | ((with_reducible apply q_ixTt); (focus ((repeat first | (with_reducible exact upd_same) | (with_reducible assumption) | (with_reducible apply upd_new (by assumption)) | (with_reducible apply upd_other (by first | assumption | exact Ne.symm (by assumption))) | (with_reducible refine' Kp.get (by assumption) ?_ (by first | assumption | exact Ne.symm (by assumption))) | (with_reducible apply Same.get (by assumption))); done)); (focus (exact rfl)))
  | ((with_reducible apply q_lenLt); (focus ((repeat first | (with_reducible exact upd_same) | (with_reducible assumption) | (with_reducible apply upd_new (by assumption)) | (with_reducible apply upd_other (by first | assumption | exact Ne.symm (by assumption))) | (with_reducible refine' Kp.get (by assumption) ?_ (by first | assumption | exact Ne.symm (by assumption))) | (with_reducible apply Same.get (by assumption))); done)))
  | ((with_reducible apply q_lenTt); (focus ((repeat first | (with_reducible exact upd_same) | (with_reducible assumption) | (with_reducible apply upd_new (by assumption)) | (with_reducible apply upd_other (by first | assumption | exact Ne.symm (by assumption))) | (with_reducible refine' Kp.get (by assumption) ?_ (by first | assumption | exact Ne.symm (by assumption))) | (with_reducible apply Same.get (by assumption))); done)))
  | ((with_reducible apply q_append); (focus ((repeat first | (with_reducible exact upd_same) | (with_reducible assumption) | (with_reducible apply upd_new (by assumption)) | (with_reducible apply upd_other (by first | assumption | exact Ne.symm (by assumption))) | (with_reducible refine' Kp.get (by assumption) ?_ (by first | assumption | exact Ne.symm (by assumption))) | (with_reducible apply Same.get (by assumption))); done)); (focus ((first | (exact Nat.lt_of_ble_eq_true rfl) | (simp only [List.length_append, List.length_cons, List.length_nil, List.length_map]; exact small1000 (by omega))))))
  | ((with_reducible apply q_setL); (focus ((repeat first | (with_reducible exact upd_same) | (with_reducible assumption) | (with_reducible apply upd_new (by assumption)) | (with_reducible apply upd_other (by first | assumption | exact Ne.symm (by assumption))) | (with_reducible refine' Kp.get (by assumption) ?_ (by first | assumption | exact Ne.symm (by assumption))) | (with_reducible apply Same.get (by assumption))); done)); (focus (exact rfl)))
  | with_reducible refine q_ifNT ?_
  | with_reducible refine q_ifNF ?_
  | with_reducible refine q_andNT ?_
  | with_reducible refine q_andNF ?_
  | with_reducible refine q_orNT ?_
  | with_reducible refine q_orNF ?_
  | with_reducible refine q_bKNT ?_
  | with_reducible refine q_bKNF ?_
  | with_reducible refine q_tNGet ?_
  | with_reducible refine q_tNIn ?_
  | with_reducible refine q_sNPut ?_
  | with_reducible refine q_sFldAug ?_
  | with_reducible refine q_sDAug ?_
  | with_reducible refine q_sDDel ?_
  | with_reducible refine q_forX ?_
  | with_reducible refine q_tMake ?_
  | ((with_reducible apply q_dG1a); (focus ((repeat first | (with_reducible exact upd_same) | (with_reducible assumption) | (with_reducible apply upd_new (by assumption)) | (with_reducible apply upd_other (by first | assumption | exact Ne.symm (by assumption))) | (with_reducible refine' Kp.get (by assumption) ?_ (by first | assumption | exact Ne.symm (by assumption))) | (with_reducible apply Same.get (by assumption))); done)))))
/-! the law's own count -/
theorem wsum_get (gs : Gs) : (gs.map (·.2)).sum = wsum gs := rfl
theorem rising_pw : ∀ {p : Str} {r : List Str}, risingS p r = true → (p :: r).Pairwise fun a b => ¬ nlt b a
  | p, [], _ => by simp
  | p, x :: r, h => by
    simp only [risingS, Bool.and_eq_true, ltCps_eq] at h
    obtain ⟨h1, h2⟩ := h
    have h1 : ¬ nlt x p := by unfold nlt; simpa using h1
    have ih := rising_pw h2
    refine List.pairwise_cons.mpr ⟨fun b hb => ?_, ih⟩
    rcases List.mem_cons.mp hb with e | m
    · rw [e]; exact h1
    · intro q
      have h3 := (List.pairwise_cons.mp ih).1 b m
      by_cases e : x = p
      · rw [e] at h3; exact h3 q
      · rcases nlt_tri e with z | z
        · exact h1 z
        · exact h3 (nlt_tr q z)
theorem sorted_nsrt {ys ns : List Str} (hp : ys.Perm ns) (hs : sortedS ys = true) (nd : ns.Nodup) : ys = nsrt ns := by
  have nd2 : ys.Nodup := hp.nodup_iff.mpr nd
  refine nlt_uniq ?_ (nsrt_pw nd) (hp.trans (nsrt_perm ns).symm)
  cases ys with
  | nil => exact .nil
  | cons p r =>
    refine List.Pairwise.imp_of_mem ?_ (List.Pairwise.and (rising_pw hs) nd2)
    rintro a b _ _ ⟨h1, h2⟩
    exact (nlt_tri h2).resolve_right h1
structure InL (K : PySem.W.Frag) (H : Hp) (a : Addr) (xs : List V) (gs : Gs) : Prop where
  s : SqL K H a xs
  p : PairsAt H xs gs
  l : gs.length ≤ 50
  nd : (nam gs).Nodup
  b : ∀ b ∈ gs, 0 ≤ b.2 ∧ b.2 ≤ 1000000000
theorem InL.same {K : PySem.W.Frag} {H H' : Hp} {a : Addr} {xs : List V} {gs : Gs} (h : InL K H a xs gs) (e : Same H H') : InL K H' a xs gs := ⟨sqL_same h.s e, h.p.same e, h.l, h.nd, h.b⟩
def sp_Lref (K : PySem.W.Frag) (P0 : Addr) : Sp := fun vs H Q _ => ∃ (a : Addr) (xs : List V) (gs : Gs) (n : Int), vs = [.ref a, .int n] ∧ InL K H a xs gs ∧ n ≤ 1000 ∧ LamX.TabS H P0 shQ ∧ nobody gs n ∧ ∀ H', Same H H' → Q (.bl true) H'
def sp_Ldue39 (K : PySem.W.Frag) : Sp := fun vs H Q _ => ∃ (a : Addr) (xs : List V) (gs : Gs) (n : Int), vs = [.ref a, .int n] ∧ InL K H a xs gs ∧ 1 ≤ n ∧ n ≤ 1000 ∧ 0 < wsum gs ∧ ∀ (r : Addr) (ys : List V) (H' : Hp), Same H H' → H' r = some (.tup ys) → PairsAt H' ys (shr gs n) → Q (.ref r) H'
section
variable {P : Program} {w : World} {K : PySem.W.Frag} {mg : Str → Option Value} {base : Heap}
theorem ok_L_refused {T : Txt K mg} {c P0 : Addr} (hcc : T.d_shares.code = .ref c) (TB0 : LamX.TabB base mg c P0) (_ : Txt K mg) : FnOk P w K mg base CX0 5 T.f_L_refused T.d_L_refused ["bonds", "seats"] (sp_Lref K P0) := by
  refine T.F_L_refused.ok sc_L_refused (fun vs H Q E h => ?_) (fun cdv A outer s H vs Q E hr h => ?_)
  · obtain ⟨a, xs, gs, n, rfl, _⟩ := h; rfl
  · obtain ⟨a, xs, gs, n, rfl, hI, hn, hT, hno, k⟩ := h
    refine ⟨_, (pss_cons (ps_try_as (i := 2) rfl rfl sc_L_refused.nd rfl rfl ⟨rfl, by decide, .inl T.g_BridgeError⟩ takes0 (fun W pn xe tk _ => (pss_one (ps_expr (pe_callS (ok_shares (P := P) (base := base) (T := T) hcc TB0 T) (hr.mono (by decide)) (by rfl) T.g_shares T.F_shares.kp T.b_shares (fun σ => passAt tk σ) (pa_cons (pv 0) (pa_cons (pv 1) pa_nil))))))
      (fun a oe cls d pn hz hf => (pss_cls (C := T.C_InvalidArgument) hz fun hz => (pss_one (ps_ret (pe_callB (call_isE (T.ec_InvalidArgument) hz hf) (by rfl) T.z_isinstance boot_isinstance (pa_cons (pv 2) (pa_cons (pe_glob (v := .ref T.C_InvalidArgument) (by rfl) T.g_InvalidArgument rfl) pa_nil))))))))
      (pss_one (ps_ret pe_bl))), ?_⟩
    (dsimp only [cxOf, Cx.nox, Cx.wish, L2.start, List.map, List.length, List.replicate, List.cons_append, List.nil_append, List.append_eq, Nat.reduceSub, Nat.reduceAdd])
    walk_at "my_rd"
    refine q_callS ?_
    walk_at "my_rd"
    refine ⟨a, xs, gs, n, rfl, hI.s, hI.p, hI.l, hI.nd, hI.b, hn, hT, fun _ H' sm => ⟨true, T.ex_InvalidArgument, fun _ a ha => ⟨⟨rfl, rfl⟩, ?_⟩, fun q => nomatch q⟩, fun q => absurd hno q⟩
    walk_at "my_rd"
    refine q_isE T.hi_InvalidArgument ?_
    walk_at "my_rd"
    exact k _ sm
theorem ok_L_due (T : Txt K mg) : FnOk P w K mg base CX0 1 T.f_L_due T.d_L_due ["bonds", "seats"] (sp_Ldue39 K) := by
  refine T.F_L_due.ok sc_L_due (fun vs H Q E h => ?_) (fun cdv A outer s H vs Q E hr h => ?_)
  · obtain ⟨a, xs, gs, n, rfl, _⟩ := h; rfl
  · obtain ⟨a, xs, gs, n, rfl, hI, hn1, hn, hw1, k⟩ := h
    have hu := hu_of hr
    have ok : BdOk gs n := ⟨hI.nd, fun b m => (hI.b b m).1, hw1, hn1⟩
    have hw2 : wsum gs ≤ 50000000000 := by
      have := wsum_le (gs := gs) (m := 1000000000) fun b m => (hI.b b m).2
      have := hI.l
      omega
    have hxl : xs.length = gs.length := hI.p.len
    have hks : (nam gs).length = gs.length := List.length_map ..
    have ln : ∀ i, i ≤ gs.length → i < sizeLine := fun i h => small1000 (by have := hI.l; omega)
    have hgr : ∀ (i : Nat) (g : Str × Int), gs[i]? = some g → getRow gs g.1 = g.2 := fun i g hg => getRow_mem hI.nd g (List.mem_of_getElem? hg)
    have hnk : ∀ (i : Nat) (g : Str × Int), gs[i]? = some g → (nam gs)[i]? = some g.1 := fun i g hg => by unfold nam; rw [List.getElem?_map, hg]; rfl
    have hnew : ∀ (i : Nat) (g : Str × Int), gs[i]? = some g → g.1 ∉ (nam gs).take i := fun i g hg hm => by
      have h3 : ((nam gs).take (i + 1)).Nodup := (List.take_sublist _ _).nodup hI.nd
      rw [take_snoc (hnk i g hg)] at h3
      exact (List.nodup_append.mp h3).2.2 g.1 hm g.1 (by simp) rfl
    have hmul : ∀ (i : Nat) (g : Str × Int), gs[i]? = some g → 0 ≤ n * g.2 ∧ n * g.2 ≤ 1000000000000 ∧ 0 ≤ g.2 ∧ g.2 ≤ 1000000000 := fun i g hg => by
      obtain ⟨h1, h2⟩ := hI.b g (List.mem_of_getElem? hg)
      have h3 := Int.mul_nonneg (show 0 ≤ n by omega) h1
      have h4 : n * g.2 ≤ 1000 * 1000000000 := Int.mul_le_mul hn h2 h1 (by omega)
      exact ⟨h3, by omega, h1, h2⟩
    refine ⟨_, (pss_cons (ps_set (i := 2) sc_L_due.nd rfl (Or.inr rfl) (pe_callB (cr_sum rfl) (by rfl) T.z_sum boot_sum (pa_cons (pe_lc (own := [("pair", 4)]) (g := (gName 4)) (tt := tYes) (te := (tOp (rIxT K) (tVar 4) (tC (.int 1)))) rfl sc_L_due.nd (pi_list (pv 0)) (blkOk_by (own := [("pair", 4)]) (N := ["bonds", "seats", "whole", "table", "pair", "left", "mine", "better", "other", "name"]) (sc := defScope s_L_due) (by decide +kernel)) (fun _ _ _ _ _ => (pg_name (i := 4) sc_L_due.nd rfl (Or.inl rfl))) (fun _ _ _ _ _ => pts_nil) (fun _ _ _ _ _ => (pe_ix ix_tup (pv 4) pe_int (fun _ _ => rfl)))) pa_nil)))
      (pss_cons (ps_set (i := 3) sc_L_due.nd rfl (Or.inr rfl) pe_dnewK)
      (pss_cons (ps_for PassesOwn.never rfl (pi_list (pv 0)) (pg_name (i := 4) sc_L_due.nd rfl (Or.inr rfl))
        (pss_one (ps_dput hu (pv 3) (pe_ix ix_tup (pv 4) pe_int (fun _ _ => rfl)) (pe_op op_fdivW (pe_op op_mul (pv 1) (pe_ix ix_tup (pv 4) pe_int (fun _ _ => rfl))) (pv 2)) rfl)))
      (pss_cons (ps_set (i := 5) sc_L_due.nd rfl (Or.inl rfl) (pe_op op_sub (pv 1) (pe_callB (cr_sum rfl) (by rfl) T.z_sum boot_sum (pa_cons (pe_lock (pe_lc (own := [("name", 9)]) (g := (gName 9)) (tt := tYes) (te := (tDGet (tVar 3) (tVar 9))) rfl sc_L_due.nd (pi_keys (pv 3)) (blkOk_by (own := [("name", 9)]) (N := ["bonds", "seats", "whole", "table", "pair", "left", "mine", "better", "other", "name"]) (sc := defScope s_L_due) (by decide +kernel)) (fun _ _ _ _ _ => (pg_name (i := 9) sc_L_due.nd rfl (Or.inl rfl))) (fun _ _ _ _ _ => pts_nil) (fun _ _ _ _ _ => (pe_dget hu (pv 3) (pv 9) (fun _ _ => rfl))))) pa_nil))))
      (pss_cons (ps_for PassesOwn.never rfl (pi_list (pv 0)) (pg_name (i := 4) sc_L_due.nd rfl (Or.inr rfl))
        (pss_cons (ps_set (i := 6) sc_L_due.nd rfl (Or.inr rfl) (pe_op op_mod (pe_callTy cq_int1 (by rfl) T.z_int boot_int (pa_cons (pe_op op_mul (pv 1) (pe_ix ix_tup (pv 4) pe_int (fun _ _ => rfl))) pa_nil)) (pv 2)))
      (pss_cons (ps_setLc (i := 7) (own := [("other", 8)]) (g := (gName 8)) (tt := (tTest (tOp (rLtDt K) (tTup (tCons (tUn (rU fun i => .int (-i)) (tOp (rI (fun _ j => 0 < j) fun i j => .int (i % j)) (tCB rInt1 (tCons (tOp (rI CMul fun i j => .int (i * j)) (tVar 1) (tOp (rIxT K) (tVar 8) (tC (.int 1)))) tNil)) (tVar 2))) (tCons (tOp (rIxT K) (tVar 8) (tC (.int 0))) tNil))) (tTup (tCons (tUn (rU fun i => .int (-i)) (tVar 6)) (tCons (tOp (rIxT K) (tVar 4) (tC (.int 0))) tNil)))))) (te := (tVar 8)) rfl sc_L_due.nd rfl rfl (sw_true rfl rfl rfl (by decide +kernel)) (pi_list (pv 0)) (blkOk_by (own := [("other", 8)]) (N := ["bonds", "seats", "whole", "table", "pair", "left", "mine", "better", "other", "name"]) (sc := defScope s_L_due) (by decide +kernel)) (fun _ _ _ _ _ => (pg_name (i := 8) sc_L_due.nd rfl (Or.inl rfl))) (fun _ _ _ _ _ => (pts_one (pt_cmpR (op_ltDt (hr65 hr)) (pe_tup (pa_cons (pe_un un_neg (pe_op op_mod (pe_callTy cq_int1 (by rfl) T.z_int boot_int (pa_cons (pe_op op_mul (pv 1) (pe_ix ix_tup (pv 8) pe_int (fun _ _ => rfl))) pa_nil)) (pv 2))) (pa_cons (pe_ix ix_tup (pv 8) pe_int (fun _ _ => rfl)) pa_nil))) (pe_tup (pa_cons (pe_un un_neg (pv 6)) (pa_cons (pe_ix ix_tup (pv 4) pe_int (fun _ _ => rfl)) pa_nil))) (nomark _)))) (fun _ _ _ _ _ => (pv 8)))
      (pss_one (ps_if (pt_cmpR op_lt (pe_callB cq_len (by rfl) T.z_len boot_len (pa_cons (pv 7) pa_nil)) (pv 5) (nomark _)) (pss_one (ps_dput hu (pv 3) (pe_ix ix_tup (pv 4) pe_int (fun _ _ => rfl)) (pe_op op_add (pe_dget hu (pv 3) (pe_ix ix_tup (pv 4) pe_int (fun _ _ => rfl)) (fun _ _ => rfl)) pe_int) rfl)) pss_nil)))))
      (pss_one (ps_ret (pe_callTy cq_tupOf (by rfl) T.z_tuple boot_tuple (pa_cons (pe_lc (own := [("name", 9)]) (g := (gName 9)) (tt := (tTest (tOp (rI0 fun i j => .bl (decide (j < i))) (tDGet (tVar 3) (tVar 9)) (tC (.int 0))))) (te := (tTup (tCons (tVar 9) (tCons (tDGet (tVar 3) (tVar 9)) tNil)))) rfl sc_L_due.nd (pi_list (pe_callB (call_sortedD rfl) (by rfl) T.z_sorted boot_sorted (pa_cons (pv 3) pa_nil))) (blkOk_by (own := [("name", 9)]) (N := ["bonds", "seats", "whole", "table", "pair", "left", "mine", "better", "other", "name"]) (sc := defScope s_L_due) (by decide +kernel)) (fun _ _ _ _ _ => (pg_name (i := 9) sc_L_due.nd rfl (Or.inl rfl))) (fun _ _ _ _ _ => (pts_one (pt_cmpR op_gt (pe_dget hu (pv 3) (pv 9) (fun _ _ => rfl)) pe_int (nomark _)))) (fun _ _ _ _ _ => (pe_tup (pa_cons (pv 9) (pa_cons (pe_dget hu (pv 3) (pv 9) (fun _ _ => rfl)) pa_nil))))) pa_nil))))))))), ?_⟩
    (dsimp only [cxOf, Cx.nox, Cx.wish, L2.start, List.map, List.length, List.replicate, List.cons_append, List.nil_append, List.append_eq, Nat.reduceSub, Nat.reduceAdd])
    walk_at "my_rd"
    refine q_lcL hI.s fun D nD => ⟨fun i H2 => Same H H2 ∧ H2 D = some (.lst (((gs.take i).map (·.2)).map V.int)), ⟨Same.new (Same.refl _) nD, upd_same⟩, fun i H2 _ ⟨sm, _⟩ => sqL_same hI.s sm, fun i x H2 hx ⟨sm, hD⟩ => ?_, fun H2 ⟨sm, hD⟩ => ?_⟩
    · obtain ⟨g, b, hg, rfl, hgb⟩ := hI.p.item hx
      walk_at "my_rd"
      refine ⟨rfl, ?_⟩
      walk_at "my_rd"
      refine q_accK hD (by rw [List.length_map, List.length_map, List.length_take]; exact ln _ (by omega)) ⟨Same.new sm nD, ?_⟩
      rw [upd_same, take_snoc hg, List.map_append, List.map_append]
      rfl
    rw [hxl, List.take_length] at hD
    walk_at "my_rd"
    refine q_sum (sqL hD) ?_
    rw [show (gs.map (·.2)).sum = wsum gs from rfl]
    have hI2 := hI.same sm
    have s0 := sm
    clear hD sm
    walk_at "my_rd"
    refine q_dNew fun tb ntb => ?_
    walk_at "my_rd"
    have htb : upd H2 tb (.dK []) tb = some (.dK []) := upd_same
    have s1 : Same H (upd H2 tb (.dK [])) := fun b o q => upd_new ntb (s0 _ _ q)
    generalize upd H2 tb (.dK []) = H3 at htb s1 ⊢
    have ht0 : H tb = none := Same.free s0 ntb
    clear hI2 s0 ntb
    have nt : ∀ {H' : Hp} {r : Row} {b : Addr} {o : HO}, Same H H' → H b = some o → upd H' tb (.dK (rowK r)) b = some o := fun s q => upd_other (ne_of_none q ht0) (s _ _ q)
    have up : ∀ {H' : Hp} {r : Row}, Same H H' → Same H (upd H' tb (.dK (rowK r))) := fun s b o q => nt s q
    refine q_forL (sqL_same hI.s s1) (fun i σ H' => ∃ v4 : Option V, σ = [some (.ref a), some (.int n), some (.int (wsum gs)), some (.ref tb), v4, none, none, none, none, none] ∧ Same H H' ∧ H' tb = some (.dK (rowK (rowF ((nam gs).take i) (bas gs n)))))
      ⟨none, rfl, s1, htb⟩ (fun i σ H' _ ⟨_, _, s, _⟩ => sqL_same hI.s s) ?_ ?_
    · rintro i v σ H' hv ⟨v4, rfl, sm, hD⟩
      obtain ⟨g, b, hg, rfl, hgb⟩ := hI.p.item hv
      obtain ⟨hm0, hm1, hg0, hg1⟩ := hmul i g hg
      have hil : i < gs.length := (List.getElem?_eq_some_iff.mp hg).1
      walk_at "my_rd"
      refine q_I (wide_div (b := 40) hw1 (by omega) (by decide) (by decide)) ?_
      walk_at "my_rd"
      refine q_dPutS hD (by rw [rowF_len, List.length_take]; exact ln _ (by omega)) ?_
      walk_at "my_rd"
      refine ⟨_, rfl, ?_⟩
      rw [take_snoc (hnk i g hg), ← rowF_new (hnew i g hg)]
      unfold bas
      rw [hgr i g hg]
      refine ⟨?_, upd_same⟩
      rw [rowK_put]
      exact up sm
    rintro σ H4 ⟨v4, rfl, s4, hD4⟩
    rw [hxl, List.take_of_length_le (by rw [hks]; exact Nat.le_refl _)] at hD4
    clear htb s1 nt
    walk_at "my_rd"
    refine ⟨tb, _, hD4, trivial, fun od => ?_⟩
    have hF : upd H4 tb (.frz od (.dK (rowK (rowF (nam gs) (bas gs n))))) tb = some (.frz od (.dK (rowK (rowF (nam gs) (bas gs n))))) := upd_same
    unfold tLc iKeys
    refine q_var (v := .ref tb) rfl ⟨tb, od, rfl, .inl ⟨_, hF, fun B nB => ?_⟩⟩
    generalize hHF : upd H4 tb (.frz od (.dK (rowK (rowF (nam gs) (bas gs n))))) = HF at nB hF
    have keep : ∀ b o, H4 b = some o → b ≠ tb → HF b = some o := fun b o q n => by rw [← hHF]; exact upd_other n q
    have nBD : B ≠ tb := fun e => by rw [e, hF] at nB; cases nB
    refine lc_it walk_keys (fun i H2 => Same HF H2 ∧ H2 B = some (.lst ((((nam gs).take i).map (bas gs n)).map V.int))) ⟨Same.new (Same.refl _) nB, upd_same⟩ (fun i H2 _ ⟨sm, _⟩ => sm _ _ hF) ?_ ?_
    · rintro i v H2 H3 hi ⟨sm, hB⟩ ⟨rfl, k2, v2, hkv, rfl⟩
      obtain ⟨y, hy, rfl, rfl⟩ := rowF_item hkv
      have hym := List.mem_of_getElem? hy
      refine q_gName ⟨rfl, ?_⟩
      refine q_yes ?_
      refine iteT ?_
      walk_at "my_rd"
      refine ⟨tb, .int (bas gs n y), rfl, .inl ⟨_, .inr y, .inr ⟨od, sm _ _ hF⟩, rfl, (rowF_val hym).symm⟩, ?_⟩
      refine ⟨_, hB, by rw [List.length_map, List.length_map, List.length_take, hks]; exact ln _ (by omega), Same.new sm nB, ?_⟩
      rw [upd_same, take_snoc hy, List.map_append, List.map_append]
      rfl
    rintro H5 ⟨sm5, hB5⟩
    rw [rowF_len, List.take_of_length_le (Nat.le_refl _)] at hB5
    refine ⟨sm5 _ _ hF, ?_⟩
    have s6 : Same H (upd H5 tb (.dK (rowK (rowF (nam gs) (bas gs n))))) := fun b o q => upd_other (ne_of_none q ht0) (sm5 _ _ (keep b o (s4 _ _ q) (ne_of_none q ht0)))
    have hD6 : upd H5 tb (.dK (rowK (rowF (nam gs) (bas gs n)))) tb = some (.dK (rowK (rowF (nam gs) (bas gs n)))) := upd_same
    have hB6 : upd H5 tb (.dK (rowK (rowF (nam gs) (bas gs n)))) B = some (.lst (((nam gs).map (bas gs n)).map V.int)) := upd_other nBD hB5
    generalize upd H5 tb (.dK (rowK (rowF (nam gs) (bas gs n)))) = H6 at s6 hD6 hB6 ⊢
    clear hF hHF keep nB sm5 hB5 hD4 s4
    walk_at "my_rd"
    refine q_sum (sqL hB6) ?_
    clear hB6 nBD
    walk_at "my_rd"
    rw [show n - ((nam gs).map (bas gs n)).sum = lft gs n from rfl]
    refine q_forL (sqL_same hI.s s6) (fun i σ H' => ∃ v4 v6 v7 : Option V, σ = [some (.ref a), some (.int n), some (.int (wsum gs)), some (.ref tb), v4, some (.int (lft gs n)), v6, v7, none, none] ∧ Same H H' ∧ H' tb = some (.dK (rowK (rowF (nam gs) fun y => bas gs n y + if y ∈ (nam gs).take i ∧ (rnk gs n y : Int) < lft gs n then 1 else 0))))
      ⟨_, _, _, rfl, s6, by rw [hD6]; congr 4; funext y; simp⟩ (fun i σ H' _ ⟨_, _, _, _, s, _⟩ => sqL_same hI.s s) ?_ ?_
    · rintro i v σ H' hv ⟨v4, v6, v7, rfl, sm, hD⟩
      obtain ⟨g, b, hg, rfl, hgb⟩ := hI.p.item hv
      obtain ⟨hm0, hm1, hg0, hg1⟩ := hmul i g hg
      have hgb' := sm _ _ hgb
      have hgm : g.1 ∈ nam gs := List.mem_of_getElem? (hnk i g hg)
      have hrm : n * g.2 % wsum gs = rmd gs n g.1 := by unfold rmd; rw [hgr i g hg]
      walk_at "my_rd"
      rw [hrm]
      refine ⟨a, rfl, ⟨xs, sqL_same hI.s sm⟩, fun D nD => ?_⟩
      refine lc_it (walk_list (xs := xs)) (fun j H2 => Same H' H2 ∧ ∃ zs : List V, H2 D = some (.lst zs) ∧ zs.length = (((nam gs).take j).filter fun z => decide (bR (rmd gs n) z g.1)).length) ⟨Same.new (Same.refl _) nD, [], upd_same, rfl⟩ (fun j H2 _ ⟨s, _⟩ => sqL_same hI.s (sm.trans s)) ?_ ?_
      · rintro j x H2 H3 hj ⟨s, zs, hB, hz⟩ ⟨rfl, hx⟩
        obtain ⟨o, ob, ho, rfl, hob⟩ := hI.p.item hx
        obtain ⟨ho0, ho1, _, _⟩ := hmul j o ho
        have hob' := s _ _ (sm _ _ hob)
        have hgb2 := s _ _ hgb'
        have hro : n * o.2 % wsum gs = rmd gs n o.1 := by unfold rmd; rw [hgr j o ho]
        walk_at "my_rd"
        refine ⟨rfl, ?_⟩
        walk_at "my_rd"
        rw [hro]
        refine q_tupK (Nat.le_of_ble_eq_true rfl) fun U1 nU1 => ?_
        walk_at "my_rd"
        refine q_tupK (Nat.le_of_ble_eq_true rfl) fun U2 nU2 => ?_
        have hB2 : upd (upd H3 U1 (.tup [.int (-(rmd gs n o.1)), .str o.1])) U2 (.tup [.int (-(rmd gs n g.1)), .str g.1]) D = some (.lst zs) := upd_new nU2 (upd_new nU1 hB)
        have s2 : Same H' (upd (upd H3 U1 (.tup [.int (-(rmd gs n o.1)), .str o.1])) U2 (.tup [.int (-(rmd gs n g.1)), .str g.1])) := fun b o q => upd_new nU2 (upd_new nU1 (s _ _ q))
        refine ⟨.tuple [.int (-(rmd gs n o.1)), .str o.1], .tuple [.int (-(rmd gs n g.1)), .str g.1], .tup (sqT (upd_new nU2 upd_same)) (.cons (.int _) (.cons (.str _) .nil)), .tup (sqT upd_same) (.cons (.int _) (.cons (.str _) .nil)), by simp [PySem.W.alike, PySem.W.alikeAll], by simp, by simp [PyData.depth, PyData.depthAll], ?_⟩
        rw [bond_lt]
        generalize upd (upd H3 U1 (.tup [.int (-(rmd gs n o.1)), .str o.1])) U2 (.tup [.int (-(rmd gs n g.1)), .str g.1]) = H5 at hB2 s2 ⊢
        have hzl : zs.length < sizeLine := by
          rw [hz]
          have h1 := List.length_filter_le (fun z => decide (bR (rmd gs n) z g.1)) ((nam gs).take j)
          rw [List.length_take] at h1
          exact ln _ (by omega)
        by_cases q : bR (rmd gs n) o.1 g.1
        · rw [decide_eq_true q]
          refine ⟨true, rfl, ?_⟩
          refine iteT ?_
          walk_at "my_rd"
          refine ⟨zs, hB2, hzl, Same.new s2 nD, zs ++ [.ref ob], upd_same, ?_⟩
          rw [take_snoc (hnk j o ho), List.filter_append, List.length_append, List.length_append, hz, List.filter_cons_of_pos (by simpa using q)]
          rfl
        · rw [decide_eq_false q]
          refine ⟨false, rfl, ?_⟩
          refine iteF ⟨s2, zs, hB2, ?_⟩
          rw [take_snoc (hnk j o ho), List.filter_append, List.length_append, hz, List.filter_cons_of_neg (by simpa using q)]
          rfl
      · rintro H2 ⟨s, zs, hB, hz⟩
        rw [hxl, List.take_of_length_le (by rw [hks]; exact Nat.le_refl _)] at hz
        have hz : zs.length = rnk gs n g.1 := hz
        have hD2 := s _ _ hD
        have hgb2 := s _ _ hgb'
        have sm2 := sm.trans s
        clear s sm hD hgb'
        walk_at "my_rd"
        rw [hz]
        have hne := hnew i g hg
        refine q_if2 (fun c => ?_) (fun c => ?_)
        · have c := dec_t c
          walk_at "my_rd"
          refine q_dGetS hD2 (rowF_val hgm) ?_
          walk_at "my_rd"
          refine q_dPutS hD2 (by rw [rowF_len, hks]; exact ln _ (Nat.le_refl _)) ?_
          walk_at "my_rd"
          refine ⟨_, _, _, rfl, by rw [rowK_put]; exact up sm2, ?_⟩
          rw [upd_same, rowF_put hgm]
          congr 3
          refine rowF_congr fun z hz => ?_
          rw [take_snoc (hnk i g hg)]
          by_cases e : z = g.1
          · subst e
            simp [hne, c]
          · simp [e]
        · have c := dec_f c
          walk_at "my_rd"
          refine ⟨_, _, _, rfl, sm2, ?_⟩
          rw [hD2]
          congr 3
          refine rowF_congr fun z hz => ?_
          rw [take_snoc (hnk i g hg)]
          by_cases e : z = g.1
          · subst e
            simp [c]
          · simp [e]
    rintro σ H7 ⟨v4, v6, v7, rfl, s7, hD7⟩
    rw [hxl, List.take_of_length_le (by rw [hks]; exact Nat.le_refl _), rowF_congr (g := seat gs n) (fun y hy => by
      unfold seat
      simp [hy])] at hD7
    clear hD6 s6 hmul
    walk_at "my_rd"
    refine ⟨tb, rowK (rowF (nam gs) (seat gs n)), nam gs, rfl, .inl hD7, rowF_keys _ _, by rw [hks]; have := hI.l; omega, fun ys sp hpm hso nsp => ?_⟩
    obtain rfl := sorted_nsrt hpm hso hI.nd
    have hsp : upd H7 sp (.lst ((nsrt (nam gs)).map V.str)) sp = some (.lst ((nsrt (nam gs)).map V.str)) := upd_same
    have hD8 : upd H7 sp (.lst ((nsrt (nam gs)).map V.str)) tb = some (.dK (rowK (rowF (nam gs) (seat gs n)))) := upd_new nsp hD7
    have s8 : Same H (upd H7 sp (.lst ((nsrt (nam gs)).map V.str))) := fun b o q => upd_new nsp (s7 _ _ q)
    generalize upd H7 sp (.lst ((nsrt (nam gs)).map V.str)) = H8 at hsp hD8 s8 ⊢
    clear hD7 s7 nsp hso hpm
    have hml : ∀ y ∈ nsrt (nam gs), y ∈ nam gs := fun y hy => (nsrt_perm _).subset hy
    have hll : (nsrt (nam gs)).length = gs.length := by rw [(nsrt_perm _).length_eq, hks]
    walk_at "my_rd"
    refine ⟨sp, rfl, ⟨_, sqL hsp⟩, fun D nD => ?_⟩
    refine lc_it (walk_list (xs := (nsrt (nam gs)).map V.str)) (fun i H2 => Same H8 H2 ∧ ∃ zs, H2 D = some (.lst zs) ∧ PairsAt H2 zs ((((nsrt (nam gs)).take i).map fun y => (y, seat gs n y)).filter fun p => decide (0 < p.2))) ⟨Same.new (Same.refl _) nD, [], upd_same, PairsAt.nil⟩ (fun i H2 _ ⟨s, _⟩ => sqL (s _ _ hsp)) ?_ ?_
    · rintro i v H2 H3 hi ⟨s, zs, hB, hP⟩ ⟨rfl, hv⟩
      rw [List.getElem?_map] at hv
      cases ey : (nsrt (nam gs))[i]? with
      | none => rw [ey] at hv; cases hv
      | some y =>
        rw [ey] at hv
        obtain rfl : V.str y = v := Option.some.inj hv
        have hym := hml y (List.mem_of_getElem? ey)
        have hzl : zs.length < sizeLine := by
          rw [hP.len]
          have h1 := List.length_filter_le (fun p : Str × Int => decide (0 < p.2)) (((nsrt (nam gs)).take i).map fun y => (y, seat gs n y))
          rw [List.length_map, List.length_take] at h1
          exact ln _ (by omega)
        walk_at "my_rd"
        refine ⟨rfl, ?_⟩
        walk_at "my_rd"
        refine q_dGetS (s _ _ hD8) (rowF_val hym) ?_
        walk_at "my_rd"
        by_cases q : 0 < seat gs n y
        · rw [decide_eq_true q]
          refine iteT ?_
          walk_at "my_rd"
          refine q_dGetS (s _ _ hD8) (rowF_val hym) ?_
          walk_at "my_rd"
          refine q_tupK (Nat.le_of_ble_eq_true rfl) fun U nU => ?_
          refine ⟨zs, upd_new nU hB, hzl, Same.new (fun b o q => upd_new nU (s _ _ q)) nD, zs ++ [.ref U], upd_same, ?_⟩
          rw [take_snoc ey, List.map_append, List.filter_append]
          show PairsAt _ _ (_ ++ List.filter _ [(y, seat gs n y)])
          rw [List.filter_cons_of_pos (by simpa using q)]
          exact ((hP.new nU).snoc (g := (y, seat gs n y)) upd_same).updL (upd_new nU hB)
        · rw [decide_eq_false q]
          refine iteF ⟨s, zs, hB, ?_⟩
          rw [take_snoc ey, List.map_append, List.filter_append]
          show PairsAt _ _ (_ ++ List.filter _ [(y, seat gs n y)])
          rw [List.filter_cons_of_neg (by simpa using q)]
          simpa using hP
    · rintro H2 ⟨s, zs, hB, hP⟩
      rw [List.length_map, List.take_of_length_le (Nat.le_refl _)] at hP
      walk_at "my_rd"
      refine q_tupL (sqL hB) fun r nr => ?_
      walk_at "my_rd"
      exact k r zs _ (fun b o q => upd_new nr (s _ _ (s8 _ _ q))) upd_same (hP.new nr)
end

local macro_rules | `(tactic| walk_at "my_rd") => `(tactic| (repeat first
  | with_reducible refine q_tCons ?_
  | ((with_reducible apply q_var); (focus (exact rfl)))
  | with_reducible refine q_c ?_
  | ((with_reducible apply q_nxE); (focus (with_reducible exact rfl)))
  | with_reducible refine q_bK ?_
  | with_reducible refine q_call ?_
  | with_reducible refine q_callK ?_
  | with_reducible refine q_tNil ?_
  | with_reducible refine q_cb ?_
  | with_reducible refine q_seq ?_
  | with_reducible refine q_asg ?_
  | with_reducible refine q_gName ?_
  | with_reducible refine q_op ?_
  | with_reducible refine q_test ?_
  | with_reducible refine q_tB ?_
  | with_reducible refine q_ifS ?_
  | with_reducible refine q_ret ?_
  | ((with_reducible apply q_rtE); (focus (with_reducible exact rfl)))
  | with_reducible refine q_next ?_
  | with_reducible refine q_ifF ?_
  | with_reducible refine q_ifT ?_
  | with_reducible refine q_drop ?_
  | with_reducible refine q_and ?_
  | with_reducible refine q_or ?_
  | with_reducible refine q_andT ?_
  | with_reducible refine q_andF ?_
  | with_reducible refine q_orF ?_
  | with_reducible refine q_orT ?_
  | with_reducible refine q_andV ?_
  | with_reducible refine q_andVT ?_
  | with_reducible refine q_andVF ?_
  | with_reducible refine q_orV ?_
  | with_reducible refine q_gCons ?_
  | with_reducible refine q_gNil ?_
  | with_reducible refine q_tup ?_
  | with_reducible refine q_lst ?_
  | with_reducible refine q_not ?_
  | with_reducible refine q_notKT ?_
  | with_reducible refine q_notKF ?_
  | with_reducible refine q_I0 ?_
  | with_reducible refine q_eqI ?_
  | with_reducible refine q_neI ?_
  | ((with_reducible refine q_I ?_ ?_); first | decide | omega | exact ⟨by omega, by omega⟩ | exact ⟨by decide, by decide⟩ | exact .inl ⟨by omega, by omega⟩ | exact .inr ⟨by omega, by omega⟩ | exact .inr ⟨by decide, by decide⟩)
  | with_reducible refine q_eqS ?_
  | with_reducible refine q_neS ?_
  | with_reducible refine q_brk ?_
  | with_reducible refine q_ct ?_
  | ((with_reducible apply q_bkE); (focus (with_reducible exact rfl)))
  | ((with_reducible apply q_cnE); (focus (with_reducible exact rfl)))
  | with_reducible refine q_retN ?_
  | with_reducible refine q_gSub ?_
  | with_reducible refine q_for ?_
  | with_reducible refine q_iList ?_
  | with_reducible refine q_iTup ?_
  | with_reducible refine q_iRng1 ?_
  | with_reducible refine q_notK ?_
  | with_reducible refine q_orVT ?_
  | with_reducible refine q_orVF ?_
  | with_reducible refine q_notV ?_
  | with_reducible refine q_notVK ?_
  | with_reducible refine q_ifE ?_
  | with_reducible refine q_ifET ?_
  | with_reducible refine q_ifEF ?_
  | with_reducible refine q_yes ?_
  | with_reducible refine q_un ?_
  | with_reducible refine q_rU ?_
  | with_reducible refine q_abs ?_
  | with_reducible refine q_int1 ?_
  | with_reducible refine q_bm ?_
  | with_reducible refine q_bm0 ?_
  | with_reducible refine q_lc ?_
  | with_reducible refine q_keepT ?_
  | with_reducible refine q_keepF ?_
  | ((with_reducible apply q_aug); (focus (exact rfl)))
  | with_reducible refine q_ipI ?_
  | with_reducible refine q_chain ?_
  | with_reducible refine q_pairC ?_
  | with_reducible refine q_pairsK ?_
  | with_reducible refine q_pairN ?_
  | with_reducible refine q_fld ?_
  | with_reducible refine q_sFld ?_
  | with_reducible refine q_meth ?_
  | with_reducible refine q_makeK ?_
  | with_reducible refine q_isBl ?_
  | with_reducible refine q_notBl ?_
  | with_reducible refine q_sl ?_
  | with_reducible refine q_noPart ?_
  | with_reducible refine q_part ?_
  | with_reducible refine q_partK ?_
  | ((with_reducible apply q_mulStr); (focus (decide +kernel)))
  | with_reducible refine q_chT ?_
  | with_reducible refine q_chF ?_
  | with_reducible refine q_ord ?_
  | with_reducible refine q_iStr0 ?_
  | with_reducible refine q_iStr ?_
  | with_reducible refine q_tDIn ?_
  | with_reducible refine q_tDNotIn ?_
  | with_reducible refine q_tDGet ?_
  | with_reducible refine q_tDGet2 ?_
  | with_reducible refine q_tDGet1 ?_
  | with_reducible refine q_tDSetd ?_
  | ((with_reducible apply q_dG2a); (focus ((repeat first | (with_reducible exact upd_same) | (with_reducible assumption) | (with_reducible apply upd_new (by assumption)) | (with_reducible apply upd_other (by first | assumption | exact Ne.symm (by assumption))) | (with_reducible refine' Kp.get (by assumption) ?_ (by first | assumption | exact Ne.symm (by assumption))) | (with_reducible apply Same.get (by assumption))); done)))
  | ((with_reducible apply q_dSda); (focus ((repeat first | (with_reducible exact upd_same) | (with_reducible assumption) | (with_reducible apply upd_new (by assumption)) | (with_reducible apply upd_other (by first | assumption | exact Ne.symm (by assumption))) | (with_reducible refine' Kp.get (by assumption) ?_ (by first | assumption | exact Ne.symm (by assumption))) | (with_reducible apply Same.get (by assumption))); done)))
  | with_reducible refine q_sDPut ?_
  | ((with_reducible apply q_dInS); (focus ((repeat first | (with_reducible exact upd_same) | (with_reducible assumption) | (with_reducible apply upd_new (by assumption)) | (with_reducible apply upd_other (by first | assumption | exact Ne.symm (by assumption))) | (with_reducible refine' Kp.get (by assumption) ?_ (by first | assumption | exact Ne.symm (by assumption))) | (with_reducible apply Same.get (by assumption))); done)))
  | ((with_reducible apply q_dNInS); (focus ((repeat first | (with_reducible exact upd_same) | (with_reducible assumption) | (with_reducible apply upd_new (by assumption)) | (with_reducible apply upd_other (by first | assumption | exact Ne.symm (by assumption))) | (with_reducible refine' Kp.get (by assumption) ?_ (by first | assumption | exact Ne.symm (by assumption))) | (with_reducible apply Same.get (by assumption))); done)))
  | ((with_reducible apply q_dInI); (focus ((repeat first | (with_reducible exact upd_same) | (with_reducible assumption) | (with_reducible apply upd_new (by assumption)) | (with_reducible apply upd_other (by first | assumption | exact Ne.symm (by assumption))) | (with_reducible refine' Kp.get (by assumption) ?_ (by first | assumption | exact Ne.symm (by assumption))) | (with_reducible apply Same.get (by assumption))); done)))
  | ((with_reducible apply q_dNInI); (focus ((repeat first | (with_reducible exact upd_same) | (with_reducible assumption) | (with_reducible apply upd_new (by assumption)) | (with_reducible apply upd_other (by first | assumption | exact Ne.symm (by assumption))) | (with_reducible refine' Kp.get (by assumption) ?_ (by first | assumption | exact Ne.symm (by assumption))) | (with_reducible apply Same.get (by assumption))); done)))
  | ((with_reducible apply q_bmL); (focus ((repeat first | (with_reducible exact upd_same) | (with_reducible assumption) | (with_reducible apply upd_new (by assumption)) | (with_reducible apply upd_other (by first | assumption | exact Ne.symm (by assumption))) | (with_reducible refine' Kp.get (by assumption) ?_ (by first | assumption | exact Ne.symm (by assumption))) | (with_reducible apply Same.get (by assumption))); done)))
  | ((with_reducible apply q_bmL0); (focus ((repeat first | (with_reducible exact upd_same) | (with_reducible assumption) | (with_reducible apply upd_new (by assumption)) | (with_reducible apply upd_other (by first | assumption | exact Ne.symm (by assumption))) | (with_reducible refine' Kp.get (by assumption) ?_ (by first | assumption | exact Ne.symm (by assumption))) | (with_reducible apply Same.get (by assumption))); done)))
  | ((with_reducible apply q_ixLt); (focus ((repeat first | (with_reducible exact upd_same) | (with_reducible assumption) | (with_reducible apply upd_new (by assumption)) | (with_reducible apply upd_other (by first | assumption | exact Ne.symm (by assumption))) | (with_reducible refine' Kp.get (by assumption) ?_ (by first | assumption | exact Ne.symm (by assumption))) | (with_reducible apply Same.get (by assumption))); done)); (focus (exact rfl)))
  | ((with_reducible apply q_ixTt); (focus ((repeat first | (with_reducible exact upd_same) | (with_reducible assumption) | (with_reducible apply upd_new (by assumption)) | (with_reducible apply upd_other (by first | assumption | exact Ne.symm (by assumption))) | (with_reducible refine' Kp.get (by assumption) ?_ (by first | assumption | exact Ne.symm (by assumption))) | (with_reducible apply Same.get (by assumption))); done)); (focus (exact rfl)))
  | ((with_reducible apply q_lenLt); (focus ((repeat first | (with_reducible exact upd_same) | (with_reducible assumption) | (with_reducible apply upd_new (by assumption)) | (with_reducible apply upd_other (by first | assumption | exact Ne.symm (by assumption))) | (with_reducible refine' Kp.get (by assumption) ?_ (by first | assumption | exact Ne.symm (by assumption))) | (with_reducible apply Same.get (by assumption))); done)))
  | ((with_reducible apply q_lenTt); (focus ((repeat first | (with_reducible exact upd_same) | (with_reducible assumption) | (with_reducible apply upd_new (by assumption)) | (with_reducible apply upd_other (by first | assumption | exact Ne.symm (by assumption))) | (with_reducible refine' Kp.get (by assumption) ?_ (by first | assumption | exact Ne.symm (by assumption))) | (with_reducible apply Same.get (by assumption))); done)))
  | ((with_reducible apply q_append); (focus ((repeat first | (with_reducible exact upd_same) | (with_reducible assumption) | (with_reducible apply upd_new (by assumption)) | (with_reducible apply upd_other (by first | assumption | exact Ne.symm (by assumption))) | (with_reducible refine' Kp.get (by assumption) ?_ (by first | assumption | exact Ne.symm (by assumption))) | (with_reducible apply Same.get (by assumption))); done)); (focus ((first | (exact Nat.lt_of_ble_eq_true rfl) | (simp only [List.length_append, List.length_cons, List.length_nil, List.length_map]; exact small1000 (by omega))))))
  | ((with_reducible apply q_setL); (focus ((repeat first | (with_reducible exact upd_same) | (with_reducible assumption) | (with_reducible apply upd_new (by assumption)) | (with_reducible apply upd_other (by first | assumption | exact Ne.symm (by assumption))) | (with_reducible refine' Kp.get (by assumption) ?_ (by first | assumption | exact Ne.symm (by assumption))) | (with_reducible apply Same.get (by assumption))); done)); (focus (exact rfl)))
  | with_reducible refine q_ifNT ?_
  | with_reducible refine q_ifNF ?_
  | with_reducible refine q_andNT ?_
  | with_reducible refine q_andNF ?_
  | with_reducible refine q_orNT ?_
  | with_reducible refine q_orNF ?_
  | with_reducible refine q_bKNT ?_
  | with_reducible refine q_bKNF ?_
  | with_reducible refine q_tNGet ?_
  | with_reducible refine q_tNIn ?_
  | with_reducible refine q_sNPut ?_
  | with_reducible refine q_sFldAug ?_
  | with_reducible refine q_sDAug ?_
  | with_reducible refine q_sDDel ?_
  | with_reducible refine q_forX ?_
  | with_reducible refine q_tMake ?_
  | ((with_reducible apply q_dG1a); (focus ((repeat first | (with_reducible exact upd_same) | (with_reducible assumption) | (with_reducible apply upd_new (by assumption)) | (with_reducible apply upd_other (by first | assumption | exact Ne.symm (by assumption))) | (with_reducible refine' Kp.get (by assumption) ?_ (by first | assumption | exact Ne.symm (by assumption))) | (with_reducible apply Same.get (by assumption))); done)))))
/-! a written dict of the module: d.get(k, x); xs.remove(y), data -/
section
variable {X : Cx}
def KMis (K : PySem.W.Frag) (w : World) (a : Addr) (x : Str) : Prop := ∃ es n, K.lookup a = some ⟨.type "dict", none, .dict es n, #[]⟩ ∧ PySem.W.KeysLit w.params es.toList ∧ PySem.W.nsIn K a x = some none
def tKGet2 (K : PySem.W.Frag) (w : World) (td ty tx : TE) : TE := fun σ H Q => td σ H fun x H1 => ∃ a, x = .ref a ∧ (∃ es n, K.lookup a = some ⟨.type "dict", none, .dict es n, #[]⟩ ∧ PySem.W.KeysLit w.params es.toList ∧ (a == sysModules) = false) ∧
  ty σ H1 fun y H2 => tx σ H2 fun _ H3 => ∃ s v, y = .str s ∧ KDct K w a s v ∧ Q v H3
theorem pe_kget2 {o e f : Expr} {apos cpos : Pos} {td ty tx : TE} (ho : PE X o td) (he : PE X e ty) (hf : PE X f tx) (m : M2 X o "get" apos e f cpos) : PE X (.Call (.Attribute o "get" apos) [e, f] [] cpos) (tKGet2 X.K X.w td ty tx) := by
  refine ⟨fun pins s σ H Q I h => ?_⟩
  refine wpAny_Call_method m.base m.few m.line PySem.F.plainAttrs_dict PySem.F.slot_dict_get PySem.F.type_dict_get (thn (ho.run pins s σ H _ I h) fun u s1 ⟨x, H1, I1, rx, a, ex, ⟨es, n, hl, hk, hd⟩, q1⟩ => ?_)
  subst ex
  obtain rfl : u = Value.ref a := rx
  have hm1 := PySem.W.mapOf_K (prog := X.prog) (w := X.w) I1.kIn hl hk
  refine ⟨hm1.typeIs, fun b q => by cases q; exact ⟨_, I1.kIn _ _ hl, rfl⟩, ?_⟩
  rw [m.trees]
  refine Calls.callWith_builtin rfl (Calls.evalArgs_plain (Calls.spliced_cons (thn (he.run pins s1 σ H1 _ I1 q1) fun iv s2 ⟨y, H2, I2, ry, q2⟩ =>
    Calls.spliced_cons (thn (hf.run pins s2 σ H2 _ I2 q2) fun fv s3 ⟨z, H3, I3, rz, s', v', ey, kd, q3⟩ => Calls.spliced_nil ?_))))
  subst ey
  obtain ⟨t, rfl⟩ := (show ∃ t, iv = Value.str s' t from ry)
  obtain ⟨es2, n2, u0, hl2, hk2, e2, ru⟩ := kd
  have hm := PySem.W.mapOf_K (prog := X.prog) (w := X.w) I3.kIn hl2 hk2
  refine call_meetsIn PySem.F.slot_dict_get hm.typeIs PySem.F.entry_dict_get (PySem.F.args_dict_get_3 _ _ _) (meets_dict_get_default (strKind X.prog X.w) a (strKind_is X.prog X.w s' t) hd fv) ⟨_, hm, ?_⟩
  rw [PySem.W.find_K hl2 e2]
  exact ⟨v', H3, I3.tok _, ru, q3⟩
def rRemD (K : PySem.W.Frag) : V → List V → Hp → VK → Prop := fun x args H Q => ∃ (l : Addr) (xs : List V) (ds : List PyData) (y : V) (d : PyData) (j : Nat), x = .ref l ∧ args = [y] ∧ H l = some (.lst xs) ∧ DpAll K H xs ds ∧ Dp K H y d ∧ PyData.plainAll ds = true ∧ d.plain = true ∧ d.depth ≤ 60 ∧ SeqAt.dataPlace ds d = some j ∧ Q .non (upd H l (.lst (xs.eraseIdx j)))
theorem mt_removeD (hu : X.A.units + 65 < cLine) : MtM X "list.remove" (rRemD X.K) := by
  intro pins s σ H x vs v us Q I rx rv h
  obtain ⟨l, xs, ds, y, d, j, rfl, rfl, hH, hds, hd, p1, p2, p3, hj, q⟩ := h
  cases rx
  obtain ⟨u, rfl, ru⟩ := rv.one
  obtain ⟨as, r1⟩ := Dp.reads I d y u hd ru
  obtain ⟨z, its, n, r, hl, e⟩ := I.lstM hH
  obtain ⟨bs, r2⟩ := Dp.readsAll I ds xs its hds r
  refine SeqAt.remove_list_data (j := j) (vs := its.toArray) ⟨_, e, rfl, n, rfl⟩ (by simpa using r2) r1 p1 p2 ?_ hj (by rw [List.size_toArray, ← hl]; exact z) ?_
  · have := Nat.min_le_right (PyData.depthAll ds) d.depth
    omega
  · refine ⟨.non, _, I.lset (its' := its.eraseIdx j) hH e ?_ (r.eraseIdx j) ?_, rfl, q⟩
    · show its.toArray.eraseIdxIfInBounds j = (its.eraseIdx j).toArray
      rw [List.eraseIdxIfInBounds_toArray]
    · have := len_erase xs j
      omega
end

/-! one order: a bond -/
structure KDs {K : PySem.W.Frag} {mg : Str → Option Value} (T : Txt K mg) (w : World) : Prop where
  o1 : KDct K w T.a_ORDERS "bond" (.ref T.f_do_bond)
  p0 : ∃ es n, K.lookup T.a_PARTS = some ⟨.type "dict", none, .dict es n, #[]⟩ ∧ PySem.W.KeysLit w.params es.toList ∧ (T.a_PARTS == sysModules) = false
  p1 : KDct K w T.a_PARTS "bond" (.int 4)
theorem StAt.no {C Cs x : Addr} {H : Hp} {M : St0} (h : StAt C Cs H x M) : ∃ dx fs, H x = some (.ins C dx fs) ∧ ∀ m : Str, m ∉ stNames → fs.lookup m = none := by
  obtain ⟨dx, fs, h0, g1, g2, g3, g4, g5, g6, g7, g8, g9, g10, g11, g12, hno, hln⟩ := id h.r.ex
  exact ⟨dx, fs, h0, hno⟩
theorem CfgAt.no {C x g : Addr} {c : Parts} {H : Hp} (h : CfgAt C c g H x) : ∃ dx fs, H x = some (.ins C dx fs) ∧ ∀ m : Str, m ∉ cfgNames → fs.lookup m = none := by
  obtain ⟨dx, fs, td, bl, kvs, bv, h1, h2, h3, h4, h5, h6, h7, h8, h9, h10, h11, h12, h13⟩ := h.ex
  exact ⟨dx, fs, h1, h9⟩
theorem StAt.sheet {C Cs : Addr} {H H' : Hp} {x : Addr} {M : St0} {S' : Sh} (h : StAt C Cs H x M) (t : ShTo Cs H M.sh M.S H' S') : StAt C Cs H' x { M with S := S' } := by
  obtain ⟨dx, fs, h0, hr⟩ := h.r.ex
  have dk : ∀ b ∈ M.S.foot, ∃ kvs, H b = some (.dK kvs) := fun b m => h.sh.footK m
  have keep : ∀ b o, H b = some o → b ∉ M.S.foot → H' b = some o := t.kp
  have nf : ∀ b o, H b = some o → (∀ kvs, o ≠ .dK kvs) → H' b = some o := fun b o q n => keep b o q fun m => by
    obtain ⟨kvs, e⟩ := dk b m
    rw [q] at e
    exact n kvs (Option.some.inj e)
  have ne : ∀ b o, H b = some o → (b = M.e1 ∨ b = M.e2 ∨ b = M.e3) → H' b = some o := fun b o q e => keep b o q fun m => by
    obtain ⟨q1, q2, q3⟩ := h.sf b m
    rcases e with e | e | e
    · exact q1 e
    · exact q2 e
    · exact q3 e
  refine ⟨⟨⟨dx, fs, nf _ _ h0 (by intro k z; cases z), hr⟩, nf _ _ h.r.a1 (by intro k z; cases z), nf _ _ h.r.a2 (by intro k z; cases z), nf _ _ h.r.a3 (by intro k z; cases z), ne _ _ h.r.b1 (.inl rfl), ne _ _ h.r.b2 (.inr (.inl rfl)), ne _ _ h.r.b3 (.inr (.inr rfl)), h.r.s1, h.r.s2⟩, t.at_, t.cf.trans h.cf, h.nx, fun b m => ?_⟩
  rcases t.ft b m with m | m
  · exact h.sf b m
  · exact ⟨(ne_of_none h.r.b1 m).symm, (ne_of_none h.r.b2 m).symm, (ne_of_none h.r.b3 m).symm⟩
def sp_not0 (C : Addr) : Sp := fun vs H Q _ => ∃ (x dx : Addr), vs = [.ref x] ∧ H x = some (.ins C dx []) ∧ ∀ (H' : Hp), Kp x H H' → Q .non H'
def sp_stBd (C Cs : Addr) : Sp := fun vs H Q _ => ∃ (x : Addr) (M : St0) (g t : Str), vs = [.ref x, .str g, .str t] ∧ StAt C Cs H x M ∧ ∀ H', Same H H' → Q (.int (heldT M.S.bon t g)) H'
def sp_bonders (Cs : Addr) : Sp := fun vs H Q _ => ∃ (x : Addr) (S : Sh) (g t : Str) (b : Int), vs = [.ref x, .str t] ∧ ShAt Cs H x S ∧ S.bon = [(t, [(g, b)])] ∧ 0 < b ∧ ∀ p H', H' p = some (.lst [.str g]) → Same H H' → Q (.ref p) H'
def sp_stBg (C Cs Cc : Addr) : Sp := fun vs H Q _ => ∃ (x gd : Addr) (c : Parts) (k : TokR) (M : St0) (g : Str) (b : Int), vs = [.ref x, .str k.name] ∧ StAt C Cs H x M ∧ CfgAt Cc c gd H M.cf ∧ k ∈ c.toks ∧ M.S.bon = [(k.name, [(g, b)])] ∧ 0 < b ∧ ∀ p H', H' p = some (.lst [.str g]) → Same H H' → Q (.ref p) H'
def sp_bondD (C Cs Cc : Addr) : Sp := fun vs H Q _ => ∃ (cf nt x od gd : Addr) (c : Parts) (k : TokR) (M : St0) (g : Str) (am : Int), vs = [.ref cf, .ref nt, .ref x, .ref od] ∧ H od = some (.tup [.str "bond", .str g, .str k.name, .int am]) ∧ CfgAt Cc c gd H cf ∧ k ∈ c.toks ∧ 1 ≤ am ∧ StAt C Cs H x M ∧ TabB 999 M.S.bal ∧ TabB 999 M.S.bon ∧ ¬ heldT M.S.bal k.name g < am ∧
  ∀ (L : Addr) (H' : Hp) (S' : Sh), StAt C Cs H' x { M with S := S' } → S'.bon = putT M.S.bon k.name g am → (∀ b o, H b = some o → b ∉ M.S.foot → H' b = some o) → Q (.ref L) H'
def sp_out39 (C Cs Cc : Addr) : Sp := fun vs H Q _ => ∃ (cf nt x od gd : Addr) (c : Parts) (k : TokR) (M : St0) (g : Str) (am : Int), vs = [.ref cf, .ref nt, .ref x, .ref od] ∧ H od = some (.tup [.str "bond", .str g, .str k.name, .int am]) ∧ CfgAt Cc c gd H cf ∧ c.Ok ∧ k ∈ c.toks ∧ 1 ≤ am ∧ StAt C Cs H x M ∧ M.cf = cf ∧ TabB 900 M.S.bal ∧ (M.S.bal.map (·.1)).Nodup ∧ M.S.bon = [] ∧ ¬ heldT M.S.bal k.name g < am ∧
  ∀ (o x' L : Addr) (M' : St0) (H' : Hp), H' o = some (.tup [.ref x', .ref L]) → StAt C Cs H' x' M' → Same H H' → M'.cf = cf → M'.S.bon = [(k.name, [(g, am)])] → Q (.ref o) H'
theorem no_bd : ("bonded" : Str) ∉ shNames ∧ ("bonders" : Str) ∉ shNames ∧ ("bond" : Str) ∉ shNames ∧ ("sheet" : Str) ∉ stNames ∧ ("copy" : Str) ∉ stNames ∧ ("check_token" : Str) ∉ cfgNames ∧ ("bonded" : Str) ∉ stNames ∧ ("bonded_guards" : Str) ∉ stNames := by decide +kernel
theorem put_nil (t x : Str) (i : Int) : putT [] t x i = [(t, [(x, i)])] := by
  show [(t, putRow [] x (getRow [] x + i))] = _
  rw [show getRow [] x = 0 from rfl, Int.zero_add]
  rfl
section
variable {P : Program} {w : World} {K : PySem.W.Frag} {mg : Str → Option Value} {base : Heap}
theorem ok_Notary_init (T : Txt K mg) : FnOk P w K mg base CX0 1 T.f_Notary_init T.d_Notary_init ["self"] (sp_not0 T.C_Notary) := by
  refine T.F_Notary_init.ok sc_Notary_init (fun vs H Q E h => ?_) (fun cdv A outer s H vs Q E hr h => ?_)
  · obtain ⟨x, dx, rfl, _⟩ := h; rfl
  · obtain ⟨x, dx, rfl, hx, k⟩ := h
    have hn := hn_of hr
    refine ⟨_, (pss_cons (ps_fld (pv 0) (pe_lst pa_nil) rfl)
      (pss_one (ps_fld (pv 0) pe_nnew rfl))), ?_⟩
    (dsimp only [cxOf, Cx.nox, Cx.wish, L2.start, List.map, List.length, List.replicate, List.cons_append, List.nil_append, List.append_eq, Nat.reduceSub, Nat.reduceAdd])
    walk_at "my_rd"
    refine q_lstK (Nat.le_of_ble_eq_true rfl) fun tl ntl => ?_
    walk_at "my_rd"
    have nxt : x ≠ tl := ne_of_none hx ntl
    refine q_fputK (upd_new ntl hx) T.cl_Notary T.n_Notary_table (by show 0 < 1000; decide) ?_
    walk_at "my_rd"
    refine q_tNNew fun nd nnd => ?_
    walk_at "my_rd"
    have nxd : x ≠ nd := ne_of_none upd_same nnd
    have nd0 : H nd = none := upd_none_back (upd_none_back nnd)
    refine q_fputK (upd_other nxd upd_same) T.cl_Notary T.n_Notary_numbers (by show 1 < 1000; decide) ?_
    walk_at "my_rd"
    exact k _ (Kp.upd (Kp.new (Kp.upd (Kp.new Kp.refl ntl)) nd0))
theorem ok_State_bonded (T : Txt K mg) : FnOk P w K mg base CX0 3 T.f_State_bonded T.d_State_bonded ["self", "guard", "token"] (sp_stBd T.C_State T.C_Sheet) := by
  refine T.F_State_bonded.ok sc_State_bonded (fun vs H Q E h => ?_) (fun cdv A outer s H vs Q E hr h => ?_)
  · obtain ⟨x, M, g, t, rfl, _⟩ := h; rfl
  · obtain ⟨x, M, g, t, rfl, hM, k⟩ := h
    obtain ⟨dx, fs, h0, g1, g2, g3, g4, g5, g6, g7, g8, g9, g10, g11, g12, hno, hln⟩ := id hM.r.ex
    obtain ⟨dy, fy, s1, s2, s3, s4, s5, s6, s7⟩ := hM.sh.ex
    refine ⟨_, (pss_one (ps_ret (pe_meth (pe_fld (pv 0) rfl) T.cl_Sheet T.m_Sheet_bonded (ok_Sheet_bonded T) (hr.mono (by decide)) T.b_Sheet_bonded .nil pass0 (pa_cons (pv 1) (pa_cons (pv 2) pa_nil))))), ?_⟩
    (dsimp only [cxOf, Cx.nox, Cx.wish, L2.start, List.map, List.length, List.replicate, List.cons_append, List.nil_append, List.append_eq, Nat.reduceSub, Nat.reduceAdd])
    walk_at "my_rd"
    refine q_fldK h0 T.cl_State T.n_State_sheet g3 ?_
    walk_at "my_rd"
    refine q_methK s1 (s7.1 _ no_bd.1) fun R hR => ?_
    walk_at "my_rd"
    refine hR _ _ ⟨_, M.S, g, t, rfl, hM.sh, fun H' s => ?_⟩
    walk_at "my_rd"
    exact k _ s
theorem ok_Sheet_bonders (T : Txt K mg) : FnOk P w K mg base CX0 1 T.f_Sheet_bonders T.d_Sheet_bonders ["self", "token"] (sp_bonders T.C_Sheet) := by
  refine T.F_Sheet_bonders.ok sc_Sheet_bonders (fun vs H Q E h => ?_) (fun cdv A outer s H vs Q E hr h => ?_)
  · obtain ⟨x, S, g, t, b, rfl, _⟩ := h; rfl
  · obtain ⟨x, S, g, t, b, rfl, hS, hb, hp, k⟩ := h
    have hu := hu_of hr
    obtain ⟨dx, fs, h1, h2, h3, h4, h5, h6, h7⟩ := hS.ex
    obtain ⟨kvs, ha, hR⟩ := hS.d.ex
    have hv : ∃ a, valV kvs (Sum.inr t) = some (.ref a) ∧ H a = some (.dK (rowK [(g, b)])) := by
      rw [hb] at hR
      rcases hR.val t with ⟨e1, _⟩ | ⟨r, a, e1, e2, _, e3⟩
      · rw [show tabAt [(t, [(g, b)])] t = some [(g, b)] by unfold tabAt; simp] at e1; cases e1
      · rw [show tabAt [(t, [(g, b)])] t = some [(g, b)] by unfold tabAt; simp] at e1
        cases e1
        exact ⟨a, e2, e3⟩
    obtain ⟨ra, hv, hra⟩ := hv
    refine ⟨_, (pss_cons (ps_set (i := 2) sc_Sheet_bonders.nd rfl (Or.inr rfl) (pe_dget2 hu (pe_fld (pv 0) rfl) (pv 1) pe_dnewK ⟨rfl, rfl, rfl, rfl⟩))
      (pss_one (ps_ret (pe_callB cr_sortedS (by rfl) T.z_sorted boot_sorted (pa_cons (pe_lock (pe_lc (own := [("guard", 3)]) (g := (gName 3)) (tt := (tTest (tOp (rI0 fun i j => .bl (decide (j < i))) (tDGet (tVar 2) (tVar 3)) (tC (.int 0))))) (te := (tVar 3)) rfl sc_Sheet_bonders.nd (pi_keys (pv 2)) (blkOk_by (own := [("guard", 3)]) (N := ["self", "token", "rows", "guard"]) (sc := defScope s_Sheet_bonders) (by decide +kernel)) (fun _ _ _ _ _ => (pg_name (i := 3) sc_Sheet_bonders.nd rfl (Or.inl rfl))) (fun _ _ _ _ _ => (pts_one (pt_cmpR op_gt (pe_dget hu (pv 2) (pv 3) (fun _ _ => rfl)) pe_int (nomark _)))) (fun _ _ _ _ _ => (pv 3)))) pa_nil))))), ?_⟩
    (dsimp only [cxOf, Cx.nox, Cx.wish, L2.start, List.map, List.length, List.replicate, List.cons_append, List.nil_append, List.append_eq, Nat.reduceSub, Nat.reduceAdd])
    walk_at "my_rd"
    refine q_fldK h1 T.cl_Sheet T.n_Sheet_bonds h5 ?_
    walk_at "my_rd"
    refine q_dNew fun d nd => ?_
    have sm : Same H (upd H d (.dK [])) := Same.up (Same.refl _) nd
    refine q_dG2S (sm _ _ ha) ?_
    rw [hv]
    have hrd := sm _ _ hra
    generalize upd H d (.dK []) = H1 at sm hrd ⊢
    walk_at "my_rd"
    refine ⟨ra, _, hrd, trivial, fun od => ?_⟩
    have hF : upd H1 ra (.frz od (.dK (rowK [(g, b)]))) ra = some (.frz od (.dK (rowK [(g, b)]))) := upd_same
    unfold tLc iKeys
    refine q_var (v := .ref ra) rfl ⟨ra, od, rfl, .inl ⟨_, hF, fun B nB => ?_⟩⟩
    generalize hHF : upd H1 ra (.frz od (.dK (rowK [(g, b)]))) = HF at nB hF
    have keep : ∀ b' o, H1 b' = some o → b' ≠ ra → HF b' = some o := fun b' o q n => by rw [← hHF]; exact upd_other n q
    have nBD : B ≠ ra := fun e => by rw [e, hF] at nB; cases nB
    refine lc_it walk_keys (fun i H2 => Same HF H2 ∧ H2 B = some (.lst (([V.str g]).take i))) ⟨Same.new (Same.refl _) nB, upd_same⟩ (fun i H2 _ ⟨sm, _⟩ => sm _ _ hF) ?_ ?_
    · rintro i v H2 H3 hi ⟨s2, hB⟩ ⟨rfl, k2, v2, hkv, rfl⟩
      obtain rfl : i = 0 := by
        have hi : i < 1 := hi
        omega
      have e : (Sum.inr g, V.int b) = (k2, v2) := Option.some.inj hkv
      injection e with e1 e2
      subst e1 e2
      refine q_gName ⟨rfl, ?_⟩
      walk_at "my_rd"
      refine ⟨ra, .int b, rfl, .inl ⟨_, .inr g, .inr ⟨od, s2 _ _ hF⟩, rfl, ?_⟩, ?_⟩
      · rw [rowK_val]; simp
      walk_at "my_rd"
      rw [decide_eq_true hp]
      refine iteT ?_
      walk_at "my_rd"
      exact ⟨[], hB, by decide, Same.new s2 nB, upd_same⟩
    · rintro H2 ⟨s2, hB⟩
      refine ⟨s2 _ _ hF, ?_⟩
      have s3 : Same H1 (upd H2 ra (.dK (rowK [(g, b)]))) := fun c o q => by
        by_cases e : c = ra
        · rw [e] at q ⊢
          rw [hrd] at q
          rw [upd_same, q]
        · exact upd_other e (s2 _ _ (keep _ _ q e))
      have hB3 : upd H2 ra (.dK (rowK [(g, b)])) B = some (.lst [V.str g]) := upd_other nBD hB
      generalize upd H2 ra (.dK (rowK [(g, b)])) = H4 at s3 hB3 ⊢
      walk_at "my_rd"
      refine ⟨B, [g], rfl, sqL hB3, by show 1 < 64; decide, fun ys p hpm _ np => ?_⟩
      obtain rfl := List.perm_singleton.mp hpm
      walk_at "my_rd"
      exact k p _ upd_same fun b o q => upd_new np (s3 _ _ (sm _ _ q))
theorem ok_State_bonded_guards (T : Txt K mg) : FnOk P w K mg base CX0 2 T.f_State_bonded_guards T.d_State_bonded_guards ["self", "token"] (sp_stBg T.C_State T.C_Sheet T.C_Config) := by
  refine T.F_State_bonded_guards.ok sc_State_bonded_guards (fun vs H Q E h => ?_) (fun cdv A outer s H vs Q E hr h => ?_)
  · obtain ⟨x, gd, c, kt, M, g, b, rfl, _⟩ := h; rfl
  · obtain ⟨x, gd, c, kt, M, g, b, rfl, hM, hC, hkt, hb, hp, k⟩ := h
    obtain ⟨dx, fs, h0, g1, g2, g3, g4, g5, g6, g7, g8, g9, g10, g11, g12, hno, hln⟩ := id hM.r.ex
    obtain ⟨dy, fy, s1, s2, s3, s4, s5, s6, s7⟩ := hM.sh.ex
    obtain ⟨dc, fc, c0, cno⟩ := hC.no
    refine ⟨_, (pss_cons (ps_expr (pe_meth (pe_fld (pv 0) rfl) T.cl_Config T.m_Config_check_token (ok_Config_check_token T) (hr.mono (by decide)) T.b_Config_check_token .nil pass0 (pa_cons (pv 1) pa_nil)))
      (pss_one (ps_ret (pe_meth (pe_fld (pv 0) rfl) T.cl_Sheet T.m_Sheet_bonders (ok_Sheet_bonders T) (hr.mono (by decide)) T.b_Sheet_bonders .nil pass0 (pa_cons (pv 1) pa_nil))))), ?_⟩
    (dsimp only [cxOf, Cx.nox, Cx.wish, L2.start, List.map, List.length, List.replicate, List.cons_append, List.nil_append, List.append_eq, Nat.reduceSub, Nat.reduceAdd])
    walk_at "my_rd"
    refine q_fldK h0 T.cl_State T.n_State_config g1 ?_
    walk_at "my_rd"
    refine q_methK c0 (cno _ no_bd.2.2.2.2.2.1) fun R hR => ?_
    walk_at "my_rd"
    refine hR _ _ ⟨_, gd, c, kt, rfl, hC, hkt, ?_⟩
    walk_at "my_rd"
    refine q_fldK h0 T.cl_State T.n_State_sheet g3 ?_
    walk_at "my_rd"
    refine q_methK s1 (s7.1 _ no_bd.2.1) fun R hR => ?_
    walk_at "my_rd"
    refine hR _ _ ⟨_, M.S, g, kt.name, b, rfl, hM.sh, hb, hp, fun p H' h1 h2 => ?_⟩
    walk_at "my_rd"
    exact k p _ h1 h2
theorem ok_check_amount (T : Txt K mg) : FnOk P w K mg base CX0 2 T.f_check_amount T.d_check_amount ["config", "token", "amount"] (fun vs H Q _ => ∃ (cf gd : Addr) (c : Parts) (kt : TokR) (am : Int), vs = [.ref cf, .str kt.name, .int am] ∧ CfgAt T.C_Config c gd H cf ∧ kt ∈ c.toks ∧ 1 ≤ am ∧ Q .non H) := by
  refine T.F_check_amount.ok sc_check_amount (fun vs H Q E h => ?_) (fun cdv A outer s H vs Q E hr h => ?_)
  · obtain ⟨cf, gd, c, kt, am, rfl, _⟩ := h; rfl
  · obtain ⟨cf, gd, c, kt, am, rfl, hC, hkt, ha, k⟩ := h
    obtain ⟨dc, fc, c0, cno⟩ := hC.no
    refine ⟨_, (pss_cons (ps_if (pt_cmpR op_lt (pv 2) pe_int (nomark _)) (pss_one ps_never) pss_nil)
      (pss_one (ps_expr (pe_meth (pv 0) T.cl_Config T.m_Config_check_token (ok_Config_check_token T) (hr.mono (by decide)) T.b_Config_check_token .nil pass0 (pa_cons (pv 1) pa_nil))))), ?_⟩
    (dsimp only [cxOf, Cx.nox, Cx.wish, L2.start, List.map, List.length, List.replicate, List.cons_append, List.nil_append, List.append_eq, Nat.reduceSub, Nat.reduceAdd])
    walk_at "my_rd"
    rw [decide_eq_false (show ¬ am < 1 by omega)]
    walk_at "my_rd"
    refine q_methK c0 (cno _ no_bd.2.2.2.2.2.1) fun R hR => ?_
    walk_at "my_rd"
    refine hR _ _ ⟨_, gd, c, kt, rfl, hC, hkt, ?_⟩
    walk_at "my_rd"
    exact k
theorem ok_do_bond (T : Txt K mg) : FnOk P w K mg base CX0 4 T.f_do_bond T.d_do_bond ["config", "notary", "state", "order"] (sp_bondD T.C_State T.C_Sheet T.C_Config) := by
  refine T.F_do_bond.ok sc_do_bond (fun vs H Q E h => ?_) (fun cdv A outer s H vs Q E hr h => ?_)
  · obtain ⟨cf, nt, x, od, gd, c, kt, M, g, am, rfl, _⟩ := h; rfl
  · obtain ⟨cf, nt, x, od, gd, c, kt, M, g, am, rfl, hod, hC, hkt, ha, hM, hB, hD, hlt, k⟩ := h
    obtain ⟨dx, fs, h0, g1, g2, g3, g4, g5, g6, g7, g8, g9, g10, g11, g12, hno, hln⟩ := id hM.r.ex
    obtain ⟨dy, fy, s1, s2, s3, s4, s5, s6, s7⟩ := hM.sh.ex
    refine ⟨_, (pss_cons (ps_asg (pv 3) (pg_tup rfl (pgs_cons (pg_name (i := 4) sc_do_bond.nd rfl (Or.inl rfl)) (pgs_cons (pg_name (i := 5) sc_do_bond.nd rfl (Or.inl rfl)) (pgs_cons (pg_name (i := 6) sc_do_bond.nd rfl (Or.inl rfl)) (pgs_cons (pg_name (i := 7) sc_do_bond.nd rfl (Or.inl rfl)) pgs_nil))))))
      (pss_cons (ps_expr (pe_call (ok_check_amount T) (hr.mono (by decide)) (by rfl) T.g_check_amount T.F_check_amount.kp T.b_check_amount .nil pass0 (pa_cons (pv 0) (pa_cons (pv 6) (pa_cons (pv 7) pa_nil)))))
      (pss_cons (ps_expr (pe_meth (pe_meth0 (pv 2) T.cl_State T.m_State_sheet (ok_State_sheet T) (hr.mono (by decide)) T.b_State_sheet .nil pass0) T.cl_Sheet T.m_Sheet_bond (ok_Sheet_bond T) (hr.mono (by decide)) T.b_Sheet_bond .nil pass0 (pa_cons (pv 5) (pa_cons (pv 6) (pa_cons (pv 7) pa_nil)))))
      (pss_one (ps_ret (pe_lst pa_nil)))))), ?_⟩
    (dsimp only [cxOf, Cx.nox, Cx.wish, L2.start, List.map, List.length, List.replicate, List.cons_append, List.nil_append, List.append_eq, Nat.reduceSub, Nat.reduceAdd])
    walk_at "my_rd"
    refine q_gTup (sqT hod) rfl ?_
    walk_at "my_rd"
    refine ⟨cf, gd, c, kt, am, rfl, hC, hkt, ha, ?_⟩
    walk_at "my_rd"
    refine q_methK h0 (hno _ no_bd.2.2.2.1) fun R hR => ?_
    walk_at "my_rd"
    refine hR _ _ ⟨x, M, rfl, hM, ?_⟩
    walk_at "my_rd"
    refine q_methK s1 (s7.1 _ no_bd.2.2.1) fun R hR => ?_
    walk_at "my_rd"
    refine hR _ _ ⟨_, M.S, g, kt.name, am, rfl, hM.sh, hB, hD, hlt, fun H' S' t e1 e2 e3 => ?_⟩
    walk_at "my_rd"
    refine q_lstK (Nat.le_of_ble_eq_true rfl) fun L nL => ?_
    walk_at "my_rd"
    have s : Same H' (upd H' L (.lst [])) := Same.new (Same.refl _) nL
    exact k L _ S' ((hM.sheet t).same s) e2 fun b o q n => s _ _ (t.kp b o q n)
theorem ok_word_of {T : Txt K mg} (KD : KDs T w) (_ : Txt K mg) : FnOk P w K mg base CX0 1 T.f_word_of T.d_word_of ["order"] (fun vs H Q _ => ∃ (od : Addr) (v1 v2 v3 : V), vs = [.ref od] ∧ H od = some (.tup [.str "bond", v1, v2, v3]) ∧ Q (.str "bond") H) := by
  refine T.F_word_of.ok sc_word_of (fun vs H Q E h => ?_) (fun cdv A outer s H vs Q E hr h => ?_)
  · obtain ⟨od, v1, v2, v3, rfl, _⟩ := h; rfl
  · obtain ⟨od, v1, v2, v3, rfl, ho, k⟩ := h
    refine ⟨_, (pss_cons (ps_set (i := 1) sc_word_of.nd rfl (Or.inl rfl) (pe_ifExp (pt_truth (pv 0) (by intro _; rfl)) (pe_ix ix_tup (pv 0) pe_int (fun _ _ => rfl)) pe_non))
      (pss_cons (ps_if (PW.pt (pw_or (pt_not (pt_val (pe_callB call_isi (by rfl) T.z_isinstance boot_isinstance (pa_cons (pv 1) (pa_cons (pe_bltn (v := .ty "str") (by rfl) T.z_str boot_str rfl) pa_nil))))) (pw_or1 (pt_cmpR op_ne (pe_kget2 (pe_glob (v := .ref T.a_PARTS) (by rfl) T.c_PARTS rfl) (pv 1) pe_int ⟨rfl, rfl, rfl, rfl⟩) (pe_callB cq_len (by rfl) T.z_len boot_len (pa_cons (pv 0) pa_nil)) (nomark _))))) (pss_one ps_never) pss_nil)
      (pss_one (ps_ret (pv 1))))), ?_⟩
    (dsimp only [cxOf, Cx.nox, Cx.wish, L2.start, List.map, List.length, List.replicate, List.cons_append, List.nil_append, List.append_eq, Nat.reduceSub, Nat.reduceAdd])
    walk_at "my_rd"
    refine ⟨true, .inr (.inl ⟨_, sqT ho, rfl⟩), ?_⟩
    walk_at "my_rd"
    refine q_isiD (K := K) (.str ("bond" : Str)) (kit_str _) ?_
    walk_at "my_rd"
    rw [show (!strD (PyData.str ("bond" : Str))) = false from rfl]
    walk_at "my_rd"
    unfold tKGet2
    walk_at "my_rd"
    refine ⟨_, rfl, KD.p0, ?_⟩
    walk_at "my_rd"
    refine ⟨_, _, rfl, KD.p1, ?_⟩
    walk_at "my_rd"
    rw [show (!decide ((4 : Int) = (([V.str ("bond" : Str), v1, v2, v3] : List V).length : Nat))) = false by rfl]
    walk_at "my_rd"
    exact k
theorem ok_outcome {T : Txt K mg} (KD : KDs T w) (_ : Txt K mg) : FnOk P w K mg base CX0 8 T.f_outcome T.d_outcome ["config", "notary", "state", "order"] (sp_out39 T.C_State T.C_Sheet T.C_Config) := by
  refine T.F_outcome.ok sc_outcome (fun vs H Q E h => ?_) (fun cdv A outer s H vs Q E hr h => ?_)
  · obtain ⟨cf, nt, x, od, gd, c, kt, M, g, am, rfl, _⟩ := h; rfl
  · obtain ⟨cf, nt, x, od, gd, c, kt, M, g, am, rfl, hod, hC, hO, hkt, ha, hM, hcf, hB, hnd, hbn, hlt, k⟩ := h
    obtain ⟨dx, fs, h0, hno⟩ := hM.no
    refine ⟨_, (pss_cons (ps_set (i := 4) sc_outcome.nd rfl (Or.inl rfl) (pe_ix ix_kdict (pe_glob (v := .ref T.a_ORDERS) (by rfl) T.c_ORDERS rfl) (pe_call (ok_word_of (T := T) KD T) (hr.mono (by decide)) (by rfl) T.g_word_of T.F_word_of.kp T.b_word_of .nil pass0 (pa_cons (pv 3) pa_nil)) (fun _ _ => rfl)))
      (pss_cons (ps_set (i := 5) sc_outcome.nd rfl (Or.inl rfl) (pe_meth0 (pv 2) T.cl_State T.m_State_copy (ok_State_copy T) (hr.mono (by decide)) T.b_State_copy .nil pass0))
      (pss_cons (ps_set (i := 6) sc_outcome.nd rfl (Or.inl rfl) (pe_callL (i := 4) (ok_do_bond T) (hr.mono (by decide)) rfl (.inl rfl) T.F_do_bond.kp T.b_do_bond .nil pass0 (pa_cons (pv 0) (pa_cons (pv 1) (pa_cons (pv 5) (pa_cons (pv 3) pa_nil))))))
      (pss_one (ps_ret (pe_tup (pa_cons (pv 5) (pa_cons (pv 6) pa_nil)))))))), ?_⟩
    (dsimp only [cxOf, Cx.nox, Cx.wish, L2.start, List.map, List.length, List.replicate, List.cons_append, List.nil_append, List.append_eq, Nat.reduceSub, Nat.reduceAdd])
    walk_at "my_rd"
    refine ⟨od, _, _, _, rfl, hod, ?_⟩
    walk_at "my_rd"
    refine ⟨_, _, _, rfl, rfl, KD.o1, ?_⟩
    walk_at "my_rd"
    refine q_methK h0 (hno _ no_st.1) fun R hR => ?_
    walk_at "my_rd"
    refine hR _ _ ⟨x, gd, M, c, rfl, hM, by rw [hcf]; exact hC, hO, ⟨Nat.le_trans hB.len (by omega), by rw [hbn]; exact Nat.zero_le _, hnd, by rw [hbn]; exact List.nodup_nil⟩, fun x1 H1 M1 nx hM1 eq hf s1 => ?_⟩
    clear hR
    walk_at "my_rd"
    refine ⟨rfl, ?_⟩
    walk_at "my_rd"
    refine ⟨cf, nt, x1, od, gd, c, kt, M1, g, am, rfl, s1 _ _ hod, hC.same s1, hkt, ha, hM1, by rw [eq.bal]; exact hB.mono (by omega), by rw [eq.bon, hbn]; exact ⟨Nat.zero_le _, fun t => Nat.zero_le _⟩, by rw [eq.bal]; exact hlt, fun L H2 S' hM2 e2 kp2 => ?_⟩
    walk_at "my_rd"
    refine q_tupK (Nat.le_of_ble_eq_true rfl) fun o1 no1 => ?_
    walk_at "my_rd"
    have s4 : Same H2 (upd H2 o1 (.tup [.ref x1, .ref L])) := Same.new (Same.refl _) no1
    refine k o1 x1 L _ _ upd_same (hM2.same s4) (fun b o q => s4 _ _ (kp2 b o (s1 _ _ q) fun m => ?_)) (eq.cf.trans hcf) ?_
    · have := hf b (all_foot m)
      rw [q] at this
      cases this
    · show S'.bon = _
      rw [e2, eq.bon, hbn, put_nil]
end

local macro_rules | `(tactic| walk_at "my_rd") => `(tactic| (repeat first
  | with_reducible refine q_tCons ?_
  | ((with_reducible apply q_var); (focus (exact rfl)))
  | with_reducible refine q_c ?_
  | ((with_reducible apply q_nxE); (focus (with_reducible exact rfl)))
  | with_reducible refine q_bK ?_
  | with_reducible refine q_call ?_
  | with_reducible refine q_callK ?_
  | with_reducible refine q_tNil ?_
  | with_reducible refine q_cb ?_
  | with_reducible refine q_seq ?_
  | with_reducible refine q_asg ?_
  | with_reducible refine q_gName ?_
  | with_reducible refine q_op ?_
  | with_reducible refine q_test ?_
  | with_reducible refine q_tB ?_
  | with_reducible refine q_ifS ?_
  | with_reducible refine q_ret ?_
  | ((with_reducible apply q_rtE); (focus (with_reducible exact rfl)))
  | with_reducible refine q_next ?_
  | with_reducible refine q_ifF ?_
  | with_reducible refine q_ifT ?_
  | with_reducible refine q_drop ?_
  | with_reducible refine q_and ?_
  | with_reducible refine q_or ?_
  | with_reducible refine q_andT ?_
  | with_reducible refine q_andF ?_
  | with_reducible refine q_orF ?_
  | with_reducible refine q_orT ?_
  | with_reducible refine q_andV ?_
  | with_reducible refine q_andVT ?_
  | with_reducible refine q_andVF ?_
  | with_reducible refine q_orV ?_
  | with_reducible refine q_gCons ?_
  | with_reducible refine q_gNil ?_
  | with_reducible refine q_tup ?_
  | with_reducible refine q_lst ?_
  | with_reducible refine q_not ?_
  | with_reducible refine q_notKT ?_
  | with_reducible refine q_notKF ?_
  | with_reducible refine q_I0 ?_
  | with_reducible refine q_eqI ?_
  | with_reducible refine q_neI ?_
  | ((with_reducible refine q_I ?_ ?_); first | decide | omega | exact ⟨by omega, by omega⟩ | exact ⟨by decide, by decide⟩ | exact .inl ⟨by omega, by omega⟩ | exact .inr ⟨by omega, by omega⟩ | exact .inr ⟨by decide, by decide⟩)
  | with_reducible refine q_eqS ?_
  | with_reducible refine q_neS ?_
  | with_reducible refine q_brk ?_
  | with_reducible refine q_ct ?_
  | ((with_reducible apply q_bkE); (focus (with_reducible exact rfl)))
  | ((with_reducible apply q_cnE); (focus (with_reducible exact rfl)))
  | with_reducible refine q_retN ?_
  | with_reducible refine q_gSub ?_
  | with_reducible refine q_for ?_
  | with_reducible refine q_iList ?_
  | with_reducible refine q_iTup ?_
  | with_reducible refine q_iRng1 ?_
  | with_reducible refine q_notK ?_
  | with_reducible refine q_orVT ?_
  | with_reducible refine q_orVF ?_
  | with_reducible refine q_notV ?_
  | with_reducible refine q_notVK ?_
  | with_reducible refine q_ifE ?_
  | with_reducible refine q_ifET ?_
  | with_reducible refine q_ifEF ?_
  | with_reducible refine q_yes ?_
  | with_reducible refine q_un ?_
  | with_reducible refine q_rU ?_
  | with_reducible refine q_abs ?_
  | with_reducible refine q_int1 ?_
  | with_reducible refine q_bm ?_
  | with_reducible refine q_bm0 ?_
  | with_reducible refine q_lc ?_
  | with_reducible refine q_keepT ?_
  | with_reducible refine q_keepF ?_
  | ((with_reducible apply q_aug); (focus (exact rfl)))
  | with_reducible refine q_ipI ?_
  | with_reducible refine q_chain ?_
  | with_reducible refine q_pairC ?_
  | with_reducible refine q_pairsK ?_
  | with_reducible refine q_pairN ?_
  | with_reducible refine q_fld ?_
  | with_reducible refine q_sFld ?_
  | with_reducible refine q_meth ?_
  | with_reducible refine q_makeK ?_
  | with_reducible refine q_isBl ?_
  | with_reducible refine q_notBl ?_
  | with_reducible refine q_sl ?_
  | with_reducible refine q_noPart ?_
  | with_reducible refine q_part ?_
  | with_reducible refine q_partK ?_
  | ((with_reducible apply q_mulStr); (focus (decide +kernel)))
  | with_reducible refine q_chT ?_
  | with_reducible refine q_chF ?_
  | with_reducible refine q_ord ?_
  | with_reducible refine q_iStr0 ?_
  | with_reducible refine q_iStr ?_
  | with_reducible refine q_tDIn ?_
  | with_reducible refine q_tDNotIn ?_
  | with_reducible refine q_tDGet ?_
  | with_reducible refine q_tDGet2 ?_
  | with_reducible refine q_tDGet1 ?_
  | with_reducible refine q_tDSetd ?_
  | ((with_reducible apply q_dG2a); (focus ((repeat first | (with_reducible exact upd_same) | (with_reducible assumption) | (with_reducible apply upd_new (by assumption)) | (with_reducible apply upd_other (by first | assumption | exact Ne.symm (by assumption))) | (with_reducible refine' Kp.get (by assumption) ?_ (by first | assumption | exact Ne.symm (by assumption))) | (with_reducible apply Same.get (by assumption))); done)))
  | ((with_reducible apply q_dSda); (focus ((repeat first | (with_reducible exact upd_same) | (with_reducible assumption) | (with_reducible apply upd_new (by assumption)) | (with_reducible apply upd_other (by first | assumption | exact Ne.symm (by assumption))) | (with_reducible refine' Kp.get (by assumption) ?_ (by first | assumption | exact Ne.symm (by assumption))) | (with_reducible apply Same.get (by assumption))); done)))
  | with_reducible refine q_sDPut ?_
  | ((with_reducible apply q_dInS); (focus ((repeat first | (with_reducible exact upd_same) | (with_reducible assumption) | (with_reducible apply upd_new (by assumption)) | (with_reducible apply upd_other (by first | assumption | exact Ne.symm (by assumption))) | (with_reducible refine' Kp.get (by assumption) ?_ (by first | assumption | exact Ne.symm (by assumption))) | (with_reducible apply Same.get (by assumption))); done)))
  | ((with_reducible apply q_dNInS); (focus ((repeat first | (with_reducible exact upd_same) | (with_reducible assumption) | (with_reducible apply upd_new (by assumption)) | (with_reducible apply upd_other (by first | assumption | exact Ne.symm (by assumption))) | (with_reducible refine' Kp.get (by assumption) ?_ (by first | assumption | exact Ne.symm (by assumption))) | (with_reducible apply Same.get (by assumption))); done)))
  | ((with_reducible apply q_dInI); (focus ((repeat first | (with_reducible exact upd_same) | (with_reducible assumption) | (with_reducible apply upd_new (by assumption)) | (with_reducible apply upd_other (by first | assumption | exact Ne.symm (by assumption))) | (with_reducible refine' Kp.get (by assumption) ?_ (by first | assumption | exact Ne.symm (by assumption))) | (with_reducible apply Same.get (by assumption))); done)))
  | ((with_reducible apply q_dNInI); (focus ((repeat first | (with_reducible exact upd_same) | (with_reducible assumption) | (with_reducible apply upd_new (by assumption)) | (with_reducible apply upd_other (by first | assumption | exact Ne.symm (by assumption))) | (with_reducible refine' Kp.get (by assumption) ?_ (by first | assumption | exact Ne.symm (by assumption))) | (with_reducible apply Same.get (by assumption))); done)))
  | ((with_reducible apply q_bmL); (focus ((repeat first | (with_reducible exact upd_same) | (with_reducible assumption) | (with_reducible apply upd_new (by assumption)) | (with_reducible apply upd_other (by first | assumption | exact Ne.symm (by assumption))) | (with_reducible refine' Kp.get (by assumption) ?_ (by first | assumption | exact Ne.symm (by assumption))) | (with_reducible apply Same.get (by assumption))); done)))
  | ((with_reducible apply q_bmL0); (focus ((repeat first | (with_reducible exact upd_same) | (with_reducible assumption) | (with_reducible apply upd_new (by assumption)) | (with_reducible apply upd_other (by first | assumption | exact Ne.symm (by assumption))) | (with_reducible refine' Kp.get (by assumption) ?_ (by first | assumption | exact Ne.symm (by assumption))) | (with_reducible apply Same.get (by assumption))); done)))
  | ((with_reducible apply q_ixLt); (focus ((repeat first | (with_reducible exact upd_same) | (with_reducible assumption) | (with_reducible apply upd_new (by assumption)) | (with_reducible apply upd_other (by first | assumption | exact Ne.symm (by assumption))) | (with_reducible refine' Kp.get (by assumption) ?_ (by first | assumption | exact Ne.symm (by assumption))) | (with_reducible apply Same.get (by assumption))); done)); (focus (exact rfl)))
  | ((with_reducible apply q_ixTt); (focus ((repeat first | (with_reducible exact upd_same) | (with_reducible assumption) | (with_reducible apply upd_new (by assumption)) | (with_reducible apply upd_other (by first | assumption | exact Ne.symm (by assumption))) | (with_reducible refine' Kp.get (by assumption) ?_ (by first | assumption | exact Ne.symm (by assumption))) | (with_reducible apply Same.get (by assumption))); done)); (focus (exact rfl)))
  | ((with_reducible apply q_lenLt); (focus ((repeat first | (with_reducible exact upd_same) | (with_reducible assumption) | (with_reducible apply upd_new (by assumption)) | (with_reducible apply upd_other (by first | assumption | exact Ne.symm (by assumption))) | (with_reducible refine' Kp.get (by assumption) ?_ (by first | assumption | exact Ne.symm (by assumption))) | (with_reducible apply Same.get (by assumption))); done)))
  | ((with_reducible apply q_lenTt); (focus ((repeat first | (with_reducible exact upd_same) | (with_reducible assumption) | (with_reducible apply upd_new (by assumption)) | (with_reducible apply upd_other (by first | assumption | exact Ne.symm (by assumption))) | (with_reducible refine' Kp.get (by assumption) ?_ (by first | assumption | exact Ne.symm (by assumption))) | (with_reducible apply Same.get (by assumption))); done)))
  | ((with_reducible apply q_append); (focus ((repeat first | (with_reducible exact upd_same) | (with_reducible assumption) | (with_reducible apply upd_new (by assumption)) | (with_reducible apply upd_other (by first | assumption | exact Ne.symm (by assumption))) | (with_reducible refine' Kp.get (by assumption) ?_ (by first | assumption | exact Ne.symm (by assumption))) | (with_reducible apply Same.get (by assumption))); done)); (focus ((first | (exact Nat.lt_of_ble_eq_true rfl) | (simp only [List.length_append, List.length_cons, List.length_nil, List.length_map]; exact small1000 (by omega))))))
  | ((with_reducible apply q_setL); (focus ((repeat first | (with_reducible exact upd_same) | (with_reducible assumption) | (with_reducible apply upd_new (by assumption)) | (with_reducible apply upd_other (by first | assumption | exact Ne.symm (by assumption))) | (with_reducible refine' Kp.get (by assumption) ?_ (by first | assumption | exact Ne.symm (by assumption))) | (with_reducible apply Same.get (by assumption))); done)); (focus (exact rfl)))
  | with_reducible refine q_ifNT ?_
  | with_reducible refine q_ifNF ?_
  | with_reducible refine q_andNT ?_
  | with_reducible refine q_andNF ?_
  | with_reducible refine q_orNT ?_
  | with_reducible refine q_orNF ?_
  | with_reducible refine q_bKNT ?_
  | with_reducible refine q_bKNF ?_
  | with_reducible refine q_tNGet ?_
  | with_reducible refine q_tNIn ?_
  | with_reducible refine q_sNPut ?_
  | with_reducible refine q_sFldAug ?_
  | with_reducible refine q_sDAug ?_
  | with_reducible refine q_sDDel ?_
  | with_reducible refine q_forX ?_
  | with_reducible refine q_tMake ?_
  | ((with_reducible apply q_dG1a); (focus ((repeat first | (with_reducible exact upd_same) | (with_reducible assumption) | (with_reducible apply upd_new (by assumption)) | (with_reducible apply upd_other (by first | assumption | exact Ne.symm (by assumption))) | (with_reducible refine' Kp.get (by assumption) ?_ (by first | assumption | exact Ne.symm (by assumption))) | (with_reducible apply Same.get (by assumption))); done)))))
/-! the next set; what the law keeps -/
theorem not_tbl {o : HO} (h : ∀ ps, o ≠ .tbl ps) : ∀ ps, o ≠ .tbl ps := h
theorem StAt.kind {C Cs x : Addr} {H : Hp} {M : St0} (h : StAt C Cs H x M) {b : Addr} (m : b = x ∨ b ∈ M.all) {o : HO} (q : H b = some o) : ∀ ps, o ≠ .tbl ps := by
  intro ps e
  subst e
  rcases m with rfl | m
  · obtain ⟨dx, fs, q2, _⟩ := h.r.ex; rw [q2] at q; cases q
  · rcases all_of m with rfl | m | m
    · obtain ⟨dx, fs, q2, _⟩ := h.sh.ex; rw [q2] at q; cases q
    · simp only [St0.own, List.mem_cons, List.not_mem_nil, or_false] at m
      rcases m with rfl | rfl | rfl | rfl | rfl | rfl
      · rw [h.r.a1] at q; cases q
      · rw [h.r.a2] at q; cases q
      · rw [h.r.a3] at q; cases q
      · rw [h.r.b1] at q; cases q
      · rw [h.r.b2] at q; cases q
      · rw [h.r.b3] at q; cases q
    · obtain ⟨kvs, q2⟩ := h.sh.footK m; rw [q2] at q; cases q
theorem StAt.extN {C Cs x : Addr} {H H' : Hp} {M : St0} (h : StAt C Cs H x M) (e : LamX.ExtN H H') : StAt C Cs H' x M := h.keep fun _ m o q => e _ o q (h.kind m q)
theorem CfgAt.extN {C : Addr} {c : Parts} {g : Addr} {H H' : Hp} {x : Addr} (h : CfgAt C c g H x) (e : LamX.ExtN H H') : CfgAt C c g H' x := by
  obtain ⟨dx, fs, td, bl, kvs, bv, h1, h2, h3, h4, h5, h6, h7, h8, h9, h10, h11, h12, h13⟩ := h.ex
  exact ⟨dx, fs, td, bl, kvs, bv, e _ _ h1 (by intro k z; cases z), h2, h3, h4, h5, h6, h7, h8, h9, e _ _ h10 (by intro k z; cases z), h11.mono fun b ys q => e _ _ q (by intro k z; cases z), e _ _ h12 (by intro k z; cases z), h13.mono fun b ys q => e _ _ q (by intro k z; cases z)⟩
theorem PotAt.extN {H H' : Hp} {p l : Addr} (h : PotAt H p l) (e : LamX.ExtN H H') : PotAt H' p l := by
  obtain ⟨ns, i, c, s, g1, g2, g3⟩ := h
  exact ⟨ns, i, c, s, e _ _ g1 (by intro k z; cases z), e _ _ g2 (by intro k z; cases z), g3⟩
theorem PairsAt.extN {H H' : Hp} {xs : List V} {gs : Gs} (h : PairsAt H xs gs) (e : LamX.ExtN H H') : PairsAt H' xs gs := h.mono fun b ys q => e _ _ q (by intro k z; cases z)
theorem InL.extN {K : PySem.W.Frag} {H H' : Hp} {a : Addr} {xs : List V} {gs : Gs} (h : InL K H a xs gs) (e : LamX.ExtN H H') : InL K H' a xs gs := ⟨sqL_extN h.s e, h.p.extN e, h.l, h.nd, h.b⟩
def sp_next39 (C Cs Cc : Addr) (P0 : Addr) : Sp := fun vs H Q _ => ∃ (x gd : Addr) (c : Parts) (k : TokR) (M : St0) (g : Str) (b n : Int), vs = [.ref x, .str k.name, .int n] ∧ StAt C Cs H x M ∧ CfgAt Cc c gd H M.cf ∧ k ∈ c.toks ∧ M.S.bon = [(k.name, [(g, b)])] ∧ 0 < b ∧ b ≤ 1000000000 ∧ 1 ≤ n ∧ n ≤ 1000 ∧ LamX.TabS H P0 shQ ∧
  ∀ (r q : Addr) (o : Obj) (H' : Hp), LamX.ExtN H H' → LamX.TabS H' P0 shQ → H' r = some (.frz o (.tup [.ref q])) → H' q = some (.tup [.str g, .int n]) → Q (.ref r) H'
section
variable {P : Program} {w : World} {K : PySem.W.Frag} {mg : Str → Option Value} {base : Heap}
theorem ok_next_set {T : Txt K mg} {c0 P0 : Addr} (hcc : T.d_shares.code = .ref c0) (TB0 : LamX.TabB base mg c0 P0) (_ : Txt K mg) : FnOk P w K mg base CX0 5 T.f_next_set T.d_next_set ["state", "token", "seats"] (sp_next39 T.C_State T.C_Sheet T.C_Config P0) := by
  refine T.F_next_set.ok sc_next_set (fun vs H Q E h => ?_) (fun cdv A outer s H vs Q E hr h => ?_)
  · obtain ⟨x, gd, c, kt, M, g, b, n, rfl, _⟩ := h; rfl
  · obtain ⟨x, gd, c, kt, M, g, b, n, rfl, hM, hC, hkt, hbn, hb0, hb1, hn1, hn2, hT, k⟩ := h
    obtain ⟨dx, fs, h0, hno⟩ := hM.no
    refine ⟨_, (pss_one (ps_ret (pe_call (ok_shares (P := P) (base := base) (T := T) hcc TB0 T) (hr.mono (by decide)) (by rfl) T.g_shares T.F_shares.kp T.b_shares .nil passF (pa_cons (pe_lc (own := [("guard", 3)]) (g := (gName 3)) (tt := tYes) (te := (tTup (tCons (tVar 3) (tCons (tMeth T.C_State "bonded" (sp_stBd T.C_State T.C_Sheet) [] E0 (tVar 0) (tCons (tVar 3) (tCons (tVar 1) tNil))) tNil)))) rfl sc_next_set.nd (pi_list (pe_meth (pv 0) T.cl_State T.m_State_bonded_guards (ok_State_bonded_guards T) (hr.mono (by decide)) T.b_State_bonded_guards .nil pass0 (pa_cons (pv 1) pa_nil))) (blkOk_by (own := [("guard", 3)]) (N := ["state", "token", "seats", "guard"]) (sc := defScope s_next_set) (by decide +kernel)) (fun _ _ _ _ _ => (pg_name (i := 3) sc_next_set.nd rfl (Or.inl rfl))) (fun _ _ _ _ _ => pts_nil) (fun _ _ _ _ _ => (pe_tup (pa_cons (pv 3) (pa_cons (pe_meth (pv 0) T.cl_State T.m_State_bonded (ok_State_bonded T) (hr.mono (by decide)) T.b_State_bonded .nil pass0 (pa_cons (pv 3) (pa_cons (pv 1) pa_nil))) pa_nil))))) (pa_cons (pv 2) pa_nil))))), ?_⟩
    (dsimp only [cxOf, Cx.nox, Cx.wish, L2.start, List.map, List.length, List.replicate, List.cons_append, List.nil_append, List.append_eq, Nat.reduceSub, Nat.reduceAdd])
    walk_at "my_rd"
    refine q_methK h0 (hno _ no_bd.2.2.2.2.2.2.2) fun R hR => ?_
    walk_at "my_rd"
    refine hR _ _ ⟨x, gd, c, kt, M, g, b, rfl, hM, hC, hkt, hbn, hb0, fun p H1 hp s1 => ?_⟩
    clear hR
    walk_at "my_rd"
    refine ⟨p, rfl, ⟨_, sqL hp⟩, fun D nD => ?_⟩
    refine lc_it (walk_list (xs := [V.str g])) (fun i H2 => Same H1 H2 ∧ ∃ zs, H2 D = some (.lst zs) ∧ PairsAt H2 zs ([(g, b)].take i)) ⟨Same.new (Same.refl _) nD, [], upd_same, PairsAt.nil⟩ (fun i H2 _ ⟨s, _⟩ => sqL (s _ _ hp)) ?_ ?_
    · rintro i v H2 H3 hi ⟨s, zs, hB, hP⟩ ⟨rfl, hv⟩
      obtain rfl : i = 0 := by
        have hi : i < 1 := hi
        omega
      obtain rfl : V.str g = v := Option.some.inj hv
      walk_at "my_rd"
      refine ⟨rfl, ?_⟩
      refine q_yes ?_
      refine iteT ?_
      walk_at "my_rd"
      refine q_methK (s _ _ (s1 _ _ h0)) (hno _ no_bd.2.2.2.2.2.2.1) fun R hR => ?_
      walk_at "my_rd"
      refine hR _ _ ⟨x, M, g, kt.name, rfl, hM.same (s1.trans s), fun H4 s4 => ?_⟩
      have hv : heldT M.S.bon kt.name g = b := by
        rw [hbn]
        simp [heldT, rowOf, tabAt, getRow]
      rw [hv]
      walk_at "my_rd"
      refine q_tupK (Nat.le_of_ble_eq_true rfl) fun U nU => ?_
      walk_at "my_rd"
      have hB4 := upd_new (w := HO.tup [V.str g, V.int b]) nU (s4 _ _ hB)
      refine ⟨zs, hB4, by rw [hP.len]; show 0 < _; decide, fun c o q => upd_other (ne_of_none q nD) (upd_new nU (s4 _ _ (s _ _ q))), zs ++ [.ref U], upd_same, ?_⟩
      have hP4 : PairsAt H4 zs [] := hP.same s4
      exact ((hP4.new nU).snoc (g := (g, b)) upd_same).updL hB4
    · rintro H2 ⟨s, zs, hB, hP⟩
      have hP : PairsAt H2 zs [(g, b)] := hP
      walk_at "my_rd"
      have s2 : Same H H2 := s1.trans s
      have hno : ¬ nobody [(g, b)] n := by
        unfold nobody wsum
        simp
        omega
      refine ⟨D, zs, [(g, b)], n, rfl, sqL hB, hP, by show 1 ≤ 50; decide, by simp [nam], by simp; omega, hn2, hT.ext s2, fun q => absurd q hno, fun _ r o ys H' e t hr hod hPy => ?_⟩
      walk_at "my_rd"
      rw [shr_one hb0 hn1] at hPy
      obtain ⟨q, hq, hq2⟩ := hPy.at_ 0 (g, n) rfl
      have hl : ys.length = 1 := hPy.len
      match ys, hl, hq with
      | [y], _, hq =>
        obtain rfl : y = V.ref q := Option.some.inj hq
        exact k r q o _ (fun c o z ne => e _ _ (s2 _ _ z) ne) t hr hq2
end

local macro_rules | `(tactic| walk_at "my_rd") => `(tactic| (repeat first
  | with_reducible refine q_tCons ?_
  | ((with_reducible apply q_var); (focus (exact rfl)))
  | with_reducible refine q_c ?_
  | ((with_reducible apply q_nxE); (focus (with_reducible exact rfl)))
  | with_reducible refine q_bK ?_
  | with_reducible refine q_call ?_
  | with_reducible refine q_callK ?_
  | with_reducible refine q_tNil ?_
  | with_reducible refine q_cb ?_
  | with_reducible refine q_seq ?_
  | with_reducible refine q_asg ?_
  | with_reducible refine q_gName ?_
  | with_reducible refine q_op ?_
  | with_reducible refine q_test ?_
  | with_reducible refine q_tB ?_
  | with_reducible refine q_ifS ?_
  | with_reducible refine q_ret ?_
  | ((with_reducible apply q_rtE); (focus (with_reducible exact rfl)))
  | with_reducible refine q_next ?_
  | with_reducible refine q_ifF ?_
  | with_reducible refine q_ifT ?_
  | with_reducible refine q_drop ?_
  | with_reducible refine q_and ?_
  | with_reducible refine q_or ?_
  | with_reducible refine q_andT ?_
  | with_reducible refine q_andF ?_
  | with_reducible refine q_orF ?_
  | with_reducible refine q_orT ?_
  | with_reducible refine q_andV ?_
  | with_reducible refine q_andVT ?_
  | with_reducible refine q_andVF ?_
  | with_reducible refine q_orV ?_
  | with_reducible refine q_gCons ?_
  | with_reducible refine q_gNil ?_
  | with_reducible refine q_tup ?_
  | with_reducible refine q_lst ?_
  | with_reducible refine q_not ?_
  | with_reducible refine q_notKT ?_
  | with_reducible refine q_notKF ?_
  | with_reducible refine q_I0 ?_
  | with_reducible refine q_eqI ?_
  | with_reducible refine q_neI ?_
  | ((with_reducible refine q_I ?_ ?_); first | decide | omega | exact ⟨by omega, by omega⟩ | exact ⟨by decide, by decide⟩ | exact .inl ⟨by omega, by omega⟩ | exact .inr ⟨by omega, by omega⟩ | exact .inr ⟨by decide, by decide⟩)
  | with_reducible refine q_eqS ?_
  | with_reducible refine q_neS ?_
  | with_reducible refine q_brk ?_
  | with_reducible refine q_ct ?_
  | ((with_reducible apply q_bkE); (focus (with_reducible exact rfl)))
  | ((with_reducible apply q_cnE); (focus (with_reducible exact rfl)))
  | with_reducible refine q_retN ?_
  | with_reducible refine q_gSub ?_
  | with_reducible refine q_for ?_
  | with_reducible refine q_iList ?_
  | with_reducible refine q_iTup ?_
  | with_reducible refine q_iRng1 ?_
  | with_reducible refine q_notK ?_
  | with_reducible refine q_orVT ?_
  | with_reducible refine q_orVF ?_
  | with_reducible refine q_notV ?_
  | with_reducible refine q_notVK ?_
  | with_reducible refine q_ifE ?_
  | with_reducible refine q_ifET ?_
  | with_reducible refine q_ifEF ?_
  | with_reducible refine q_yes ?_
  | with_reducible refine q_un ?_
  | with_reducible refine q_rU ?_
  | with_reducible refine q_abs ?_
  | with_reducible refine q_int1 ?_
  | with_reducible refine q_bm ?_
  | with_reducible refine q_bm0 ?_
  | with_reducible refine q_lc ?_
  | with_reducible refine q_keepT ?_
  | with_reducible refine q_keepF ?_
  | ((with_reducible apply q_aug); (focus (exact rfl)))
  | with_reducible refine q_ipI ?_
  | with_reducible refine q_chain ?_
  | with_reducible refine q_pairC ?_
  | with_reducible refine q_pairsK ?_
  | with_reducible refine q_pairN ?_
  | with_reducible refine q_fld ?_
  | with_reducible refine q_sFld ?_
  | with_reducible refine q_meth ?_
  | with_reducible refine q_makeK ?_
  | with_reducible refine q_isBl ?_
  | with_reducible refine q_notBl ?_
  | with_reducible refine q_sl ?_
  | with_reducible refine q_noPart ?_
  | with_reducible refine q_part ?_
  | with_reducible refine q_partK ?_
  | ((with_reducible apply q_mulStr); (focus (decide +kernel)))
  | with_reducible refine q_chT ?_
  | with_reducible refine q_chF ?_
  | with_reducible refine q_ord ?_
  | with_reducible refine q_iStr0 ?_
  | with_reducible refine q_iStr ?_
  | with_reducible refine q_tDIn ?_
  | with_reducible refine q_tDNotIn ?_
  | with_reducible refine q_tDGet ?_
  | with_reducible refine q_tDGet2 ?_
  | with_reducible refine q_tDGet1 ?_
  | with_reducible refine q_tDSetd ?_
  | ((with_reducible apply q_dG2a); (focus ((repeat first | (with_reducible exact upd_same) | (with_reducible assumption) | (with_reducible apply upd_new (by assumption)) | (with_reducible apply upd_other (by first | assumption | exact Ne.symm (by assumption))) | (with_reducible refine' Kp.get (by assumption) ?_ (by first | assumption | exact Ne.symm (by assumption))) | (with_reducible apply Same.get (by assumption))); done)))
  | ((with_reducible apply q_dSda); (focus ((repeat first | (with_reducible exact upd_same) | (with_reducible assumption) | (with_reducible apply upd_new (by assumption)) | (with_reducible apply upd_other (by first | assumption | exact Ne.symm (by assumption))) | (with_reducible refine' Kp.get (by assumption) ?_ (by first | assumption | exact Ne.symm (by assumption))) | (with_reducible apply Same.get (by assumption))); done)))
  | with_reducible refine q_sDPut ?_
  | ((with_reducible apply q_dInS); (focus ((repeat first | (with_reducible exact upd_same) | (with_reducible assumption) | (with_reducible apply upd_new (by assumption)) | (with_reducible apply upd_other (by first | assumption | exact Ne.symm (by assumption))) | (with_reducible refine' Kp.get (by assumption) ?_ (by first | assumption | exact Ne.symm (by assumption))) | (with_reducible apply Same.get (by assumption))); done)))
  | ((with_reducible apply q_dNInS); (focus ((repeat first | (with_reducible exact upd_same) | (with_reducible assumption) | (with_reducible apply upd_new (by assumption)) | (with_reducible apply upd_other (by first | assumption | exact Ne.symm (by assumption))) | (with_reducible refine' Kp.get (by assumption) ?_ (by first | assumption | exact Ne.symm (by assumption))) | (with_reducible apply Same.get (by assumption))); done)))
  | ((with_reducible apply q_dInI); (focus ((repeat first | (with_reducible exact upd_same) | (with_reducible assumption) | (with_reducible apply upd_new (by assumption)) | (with_reducible apply upd_other (by first | assumption | exact Ne.symm (by assumption))) | (with_reducible refine' Kp.get (by assumption) ?_ (by first | assumption | exact Ne.symm (by assumption))) | (with_reducible apply Same.get (by assumption))); done)))
  | ((with_reducible apply q_dNInI); (focus ((repeat first | (with_reducible exact upd_same) | (with_reducible assumption) | (with_reducible apply upd_new (by assumption)) | (with_reducible apply upd_other (by first | assumption | exact Ne.symm (by assumption))) | (with_reducible refine' Kp.get (by assumption) ?_ (by first | assumption | exact Ne.symm (by assumption))) | (with_reducible apply Same.get (by assumption))); done)))
  | ((with_reducible apply q_bmL); (focus ((repeat first | (with_reducible exact upd_same) | (with_reducible assumption) | (with_reducible apply upd_new (by assumption)) | (with_reducible apply upd_other (by first | assumption | exact Ne.symm (by assumption))) | (with_reducible refine' Kp.get (by assumption) ?_ (by first | assumption | exact Ne.symm (by assumption))) | (with_reducible apply Same.get (by assumption))); done)))
  | ((with_reducible apply q_bmL0); (focus ((repeat first | (with_reducible exact upd_same) | (with_reducible assumption) | (with_reducible apply upd_new (by assumption)) | (with_reducible apply upd_other (by first | assumption | exact Ne.symm (by assumption))) | (with_reducible refine' Kp.get (by assumption) ?_ (by first | assumption | exact Ne.symm (by assumption))) | (with_reducible apply Same.get (by assumption))); done)))
  | ((with_reducible apply q_ixLt); (focus ((repeat first | (with_reducible exact upd_same) | (with_reducible assumption) | (with_reducible apply upd_new (by assumption)) | (with_reducible apply upd_other (by first | assumption | exact Ne.symm (by assumption))) | (with_reducible refine' Kp.get (by assumption) ?_ (by first | assumption | exact Ne.symm (by assumption))) | (with_reducible apply Same.get (by assumption))); done)); (focus (exact rfl)))
  | ((with_reducible apply q_ixTt); (focus ((repeat first | (with_reducible exact upd_same) | (with_reducible assumption) | (with_reducible apply upd_new (by assumption)) | (with_reducible apply upd_other (by first | assumption | exact Ne.symm (by assumption))) | (with_reducible refine' Kp.get (by assumption) ?_ (by first | assumption | exact Ne.symm (by assumption))) | (with_reducible apply Same.get (by assumption))); done)); (focus (exact rfl)))
  | ((with_reducible apply q_lenLt); (focus ((repeat first | (with_reducible exact upd_same) | (with_reducible assumption) | (with_reducible apply upd_new (by assumption)) | (with_reducible apply upd_other (by first | assumption | exact Ne.symm (by assumption))) | (with_reducible refine' Kp.get (by assumption) ?_ (by first | assumption | exact Ne.symm (by assumption))) | (with_reducible apply Same.get (by assumption))); done)))
  | ((with_reducible apply q_lenTt); (focus ((repeat first | (with_reducible exact upd_same) | (with_reducible assumption) | (with_reducible apply upd_new (by assumption)) | (with_reducible apply upd_other (by first | assumption | exact Ne.symm (by assumption))) | (with_reducible refine' Kp.get (by assumption) ?_ (by first | assumption | exact Ne.symm (by assumption))) | (with_reducible apply Same.get (by assumption))); done)))
  | ((with_reducible apply q_append); (focus ((repeat first | (with_reducible exact upd_same) | (with_reducible assumption) | (with_reducible apply upd_new (by assumption)) | (with_reducible apply upd_other (by first | assumption | exact Ne.symm (by assumption))) | (with_reducible refine' Kp.get (by assumption) ?_ (by first | assumption | exact Ne.symm (by assumption))) | (with_reducible apply Same.get (by assumption))); done)); (focus ((first | (exact Nat.lt_of_ble_eq_true rfl) | (simp only [List.length_append, List.length_cons, List.length_nil, List.length_map]; exact small1000 (by omega))))))
  | ((with_reducible apply q_setL); (focus ((repeat first | (with_reducible exact upd_same) | (with_reducible assumption) | (with_reducible apply upd_new (by assumption)) | (with_reducible apply upd_other (by first | assumption | exact Ne.symm (by assumption))) | (with_reducible refine' Kp.get (by assumption) ?_ (by first | assumption | exact Ne.symm (by assumption))) | (with_reducible apply Same.get (by assumption))); done)); (focus (exact rfl)))
  | with_reducible refine q_ifNT ?_
  | with_reducible refine q_ifNF ?_
  | with_reducible refine q_andNT ?_
  | with_reducible refine q_andNF ?_
  | with_reducible refine q_orNT ?_
  | with_reducible refine q_orNF ?_
  | with_reducible refine q_bKNT ?_
  | with_reducible refine q_bKNF ?_
  | with_reducible refine q_tNGet ?_
  | with_reducible refine q_tNIn ?_
  | with_reducible refine q_sNPut ?_
  | with_reducible refine q_sFldAug ?_
  | with_reducible refine q_sDAug ?_
  | with_reducible refine q_sDDel ?_
  | with_reducible refine q_forX ?_
  | with_reducible refine q_tMake ?_
  | ((with_reducible apply q_dG1a); (focus ((repeat first | (with_reducible exact upd_same) | (with_reducible assumption) | (with_reducible apply upd_new (by assumption)) | (with_reducible apply upd_other (by first | assumption | exact Ne.symm (by assumption))) | (with_reducible refine' Kp.get (by assumption) ?_ (by first | assumption | exact Ne.symm (by assumption))) | (with_reducible apply Same.get (by assumption))); done)))))
/-! what stays -/
theorem rows_ne {α : Type} {f : α → List V} {H : Hp} {a p l : Addr} {xs : List V} {rs : List α} (h : RowsAt f H xs rs) (ha : H a = some (.lst xs)) (pot : PotAt H p l) : a ≠ p := by
  rintro rfl
  obtain ⟨ns, i, c, s, h1, _⟩ := pot
  rw [ha] at h1
  injection h1 with h1
  injection h1 with h1
  subst h1
  obtain ⟨r, b, _, e, _⟩ := h.item (i := 1) rfl
  cases e
theorem PotAt.lst {H : Hp} {p l : Addr} (h : PotAt H p l) : ∃ xs, H p = some (.lst xs) := by
  obtain ⟨ns, i, c, s, h1, _⟩ := h; exact ⟨_, h1⟩
theorem PotAt.keep {H H' : Hp} {p l : Addr} (h : PotAt H p l) (k : ∀ b xs, H b = some (.lst xs) → H' b = some (.lst xs)) : PotAt H' p l := by
  obtain ⟨ns, i, c, s, h1, h2, r⟩ := h; exact ⟨ns, i, c, s, k _ _ h1, k _ _ h2, r⟩
theorem PartsAt.pot {H H' : Hp} {d : Addr} {c : Parts} {gs : Gs} {tl bl g : Addr} {tv bv gv : List V} {p l : Addr} (h : PartsAt H d c gs tl bl g tv bv gv) (pot : PotAt H p l) (k : Kp p H H') : PartsAt H' d c gs tl bl g tv bv gv := by
  obtain ⟨xs, hx⟩ := pot.lst
  exact ⟨k.get h.dict (ne_of h.dict hx (by intro z; cases z)), k.get h.tl (rows_ne h.tr h.tl pot), h.tr.pot pot k, k.get h.bl (rows_ne h.br h.bl pot), h.br.pot pot k, k.tup pot h.gt, h.gp.kp pot k⟩
theorem CfgAt.pot {C : Addr} {c : Parts} {g : Addr} {H H' : Hp} {x p l : Addr} (h : CfgAt C c g H x) (pot : PotAt H p l) (k : Kp p H H') : CfgAt C c g H' x := by
  obtain ⟨xs, hx⟩ := pot.lst
  obtain ⟨dx, fs, td, bl, kvs, bv, h1, h2, h3, h4, h5, h6, h7, h8, h9, h10, h11, h12, h13⟩ := h.ex
  exact ⟨dx, fs, td, bl, kvs, bv, k.get h1 (ne_of h1 hx (by intro z; cases z)), h2, h3, h4, h5, h6, h7, h8, h9, k.get h10 (ne_of h10 hx (by intro z; cases z)), h11.mono fun b ys q => k.tup pot q, k.get h12 (rows_ne h13 h12 pot), h13.pot pot k⟩
theorem getRow_put (r : Row) (x : Str) (i : Int) (y : Str) : getRow (putRow r x i) y = if x = y then i else getRow r y := by
  have h := rowK_get (putRow r x i) y
  rw [← rowK_put, L2.valV_put] at h
  by_cases e : x = y
  · subst e
    rw [if_pos rfl] at h
    rw [if_pos rfl]
    injection h with h
    exact h.symm
  · rw [if_neg (fun q => e (Sum.inr.inj q).symm), rowK_get] at h
    rw [if_neg e]
    injection h with h
    exact h.symm
theorem heldT_put (tb : Tab2) (t x : Str) (i : Int) (t2 x2 : Str) : heldT (putT tb t x i) t2 x2 = if t = t2 ∧ x = x2 then heldT tb t x + i else heldT tb t2 x2 := by
  unfold heldT
  rw [rowOf_put]
  by_cases e : t = t2
  · subst e
    rw [if_pos rfl, getRow_put]
    by_cases e2 : x = x2
    · subst e2
      rw [if_pos rfl, if_pos ⟨rfl, rfl⟩]
    · rw [if_neg e2, if_neg (fun q => e2 q.2)]
  · rw [if_neg e, if_neg (fun q => e q.1)]
theorem openT_nn {bs : List BalR} (h : ∀ b ∈ bs, 0 ≤ b.amt) (t x : Str) : 0 ≤ heldT (openT bs) t x := by
  suffices g : ∀ (tb : Tab2), (∀ t x, 0 ≤ heldT tb t x) → ∀ t x, 0 ≤ heldT (bs.foldl (fun tb b => putT tb b.tok b.acc b.amt) tb) t x from g [] (fun t x => Int.le_refl _) t x
  induction bs with
  | nil => exact fun tb h => h
  | cons b bs ih =>
    intro tb hb
    refine ih (fun z hz => h z (List.mem_cons_of_mem _ hz)) _ fun t x => ?_
    rw [heldT_put]
    have := h b List.mem_cons_self
    have := hb b.tok b.acc
    split
    · omega
    · exact hb t x
theorem has60 {c : Parts} (ok : c.Ok) {bs : List BalR} {t0 : TokR} {g0 : Str} (h : c.bals = bs ++ [⟨g0, t0.name, 60⟩]) (ht : t0 ∈ c.toks) : 60 ≤ heldT (openT (c.bals.filter fun b => decide (c.homeOf b.tok = t0.home))) t0.name g0 := by
  have e : c.bals.filter (fun b => decide (c.homeOf b.tok = t0.home)) = bs.filter (fun b => decide (c.homeOf b.tok = t0.home)) ++ [⟨g0, t0.name, 60⟩] := by
    rw [h, List.filter_append, List.filter_cons_of_pos (by simpa using Parts.home_eq ok ht)]
    rfl
  rw [e, openT_snoc, heldT_put, if_pos ⟨rfl, rfl⟩]
  have := openT_nn (bs := bs.filter fun b => decide (c.homeOf b.tok = t0.home)) (fun b hb => (ok.b b (by rw [h]; exact List.mem_append.mpr (.inl (List.mem_filter.mp hb).1))).am) t0.name g0
  show 60 ≤ heldT (openT _) t0.name g0 + 60
  omega

/-! the law -/
def spLawT (K : PySem.W.Frag) (P0 : Addr) : Sp := fun vs H Q _ => ∃ (a : Addr) (ns : List Int), vs = [.ref a] ∧ SqL K H a (ns.map V.int) ∧ ns.length ≤ 63 ∧ H P0 = some (.tbl #[]) ∧ ∀ H', Q (.bl true) H'
def kp_tab {H H' : Hp} {p l P0 : Addr} (pot : PotAt H p l) (h : LamX.TabS H P0 shQ) (k : Kp p H H') : LamX.TabS H' P0 shQ := by
  obtain ⟨ns, i, c, s, g1, g2, g3⟩ := pot
  obtain ⟨ps, h1, h2, h3⟩ := h
  refine ⟨ps, k _ _ h1 (ne_of h1 g1 (by intro z; cases z)), h2, fun pos cv hc => ?_⟩
  obtain ⟨c, e1, e2⟩ := h3 pos cv hc
  exact ⟨c, e1, k _ _ e2 (ne_of e2 g1 (by intro z; cases z))⟩
theorem pairs_lay : ∀ {gs : Gs}, (∀ g ∈ gs, PyData.strOk g.1 = true) → PyData.canLayAll0 (gs.map prd) = true ∧ PyData.depthAll (gs.map prd) ≤ 2
  | [], _ => ⟨by simp [PyData.canLayAll0], by simp [PyData.depthAll]⟩
  | g :: gs, h => by
    obtain ⟨h1, h2⟩ := pairs_lay fun x hx => h x (List.mem_cons_of_mem _ hx)
    have h3 := h g List.mem_cons_self
    exact ⟨by simp [PyData.canLayAll0, PyData.canLay0, prd, h1, h3], by simp only [List.map_cons, PyData.depthAll, prd, PyData.depth]; omega⟩
theorem pairs_sh {gs : Gs} (h : ∀ g ∈ gs, PyData.strOk g.1 = true) : SeqAt.shaped (.tuple (gs.map prd)) = true := by
  obtain ⟨h1, h2⟩ := pairs_lay h
  show ((PyData.tuple (gs.map prd)).canLay0 && decide ((PyData.tuple (gs.map prd)).depth ≤ 64)) = true
  have e1 : (PyData.tuple (gs.map prd)).canLay0 = true := by simp only [PyData.canLay0]; exact h1
  rw [e1, Bool.true_and, decide_eq_true_eq]
  simp only [PyData.depth]
  omega
theorem pairs_eq {gs : Gs} (h : ∀ g ∈ gs, PyData.strOk g.1 = true) : PyData.eqv (.tuple (gs.map prd)) (.tuple (gs.map prd)) = true := by
  obtain ⟨h1, h2⟩ := pairs_lay h
  exact PySem.SeqAt.eqv_refl _ (by simp only [PyData.canLay0]; exact h1)
theorem shr_nam {gs : Gs} {n : Int} {p : Str × Int} (h : p ∈ shr gs n) : p.1 ∈ nam gs := by
  obtain ⟨y, hy, e⟩ := List.mem_map.mp (List.mem_filter.mp h).1
  rw [← e]
  exact (nsrt_perm _).subset hy
theorem shr_nd {gs : Gs} {n : Int} (nd : (nam gs).Nodup) : (nam (shr gs n)).Nodup := by
  have e : nam ((nsrt (nam gs)).map fun y => (y, seat gs n y)) = nsrt (nam gs) := by unfold nam; rw [List.map_map]; exact List.map_id' _
  have h : (nam ((nsrt (nam gs)).map fun y => (y, seat gs n y))).Nodup := by rw [e]; exact (nsrt_perm _).nodup_iff.mpr nd
  exact (List.filter_sublist.map _).nodup h
theorem pairs_ps {K : PySem.W.Frag} {H : Hp} : ∀ {ys : List V} {gs : Gs}, PairsAt H ys gs → ∃ ps : List Addr, ys = ps.map V.ref ∧ Paired (fun p kv => SqT K H p [kV kv.1, kv.2]) ps (rowK gs)
  | [], [], _ => ⟨[], rfl, .nil⟩
  | [], g :: gs, h => by have := h.len; simp at this
  | x :: xs, [], h => by have := h.len; simp at this
  | x :: xs, g :: gs, h => by
    obtain ⟨a, e, ha⟩ := h.at_ 0 g rfl
    have e : x = .ref a := Option.some.inj e
    subst e
    obtain ⟨ps, e, hp⟩ := pairs_ps (K := K) h.tail
    exact ⟨a :: ps, by rw [e]; rfl, .cons (sqT ha) hp⟩
theorem rowK_keys (r : Row) : (rowK r).map (·.1) = (nam r).map Sum.inr := by unfold rowK nam; rw [List.map_map, List.map_map]; rfl
theorem merge_row {r : Row} (nd : (nam r).Nodup) : mergeK [] (rowK r) = rowK r := by
  rw [merge_app _ _ (by
    rw [List.nil_append, rowK_keys]
    exact List.Pairwise.map _ (fun a b q e => q (Sum.inr.inj e)) nd)]
  rfl
theorem sqL_kp {K : PySem.W.Frag} {H H2 : Hp} {a p : Addr} {xs : List V} (h : SqL K H a xs) (n : a ≠ p) (k : Kp p H H2) : SqL K H2 a xs := by
  rcases h with (h | ⟨o, h⟩) | h
  · exact .inl (.inl (k _ _ h n))
  · exact .inl (.inr ⟨o, k _ _ h n⟩)
  · exact .inr h
theorem InL.kp {K : PySem.W.Frag} {H H' : Hp} {a p l : Addr} {xs : List V} {gs : Gs} (h : InL K H a xs gs) (n : a ≠ p) (pot : PotAt H p l) (k : Kp p H H') : InL K H' a xs gs := ⟨sqL_kp h.s n k, h.p.kp pot k, h.l, h.nd, h.b⟩
def vals39 (r : Int) : List Int := [0, 1, 5, 5, 10 ^ (9 : Int).toNat, r]
section
variable {P : Program} {w : World} {K : PySem.W.Frag} {mg : Str → Option Value} {base : Heap}
set_option maxHeartbeats 4000000 in
theorem ok_law {T : Txt K mg} (KD : KDs T w) {c0 P0 : Addr} (hcc : T.d_shares.code = .ref c0) (TB0 : LamX.TabB base mg c0 P0) (_ : Txt K mg) : FnOk P w K mg base CX0 9 T.f_law T.d_law ["script"] (spLawT K P0) := by
  refine T.F_law.ok sc_law (fun vs H Q E h => ?_) (fun cdv A outer s H vs Q E hr h => ?_)
  · obtain ⟨a, ns, rfl, _⟩ := h; rfl
  · obtain ⟨a0, ns0, rfl, hS, hlen, hT0, k⟩ := h
    have hu := hu_of hr
    refine ⟨_, (pss_cons (ps_set (i := 1) sc_law.nd rfl (Or.inl rfl) (pe_call (ok_L_pot T) (hr.mono (by decide)) (by rfl) T.g_L_pot T.F_L_pot.kp T.b_L_pot .nil pass0 (pa_cons (pv 0) pa_nil)))
      (pss_cons (ps_setLc (i := 2) (own := [("k", 4)]) (g := (gName 4)) (tt := tYes) (te := (tOp rAddStr (tC (.str "g")) (tCB rStrInt (tCons (tVar 4) tNil)))) rfl sc_law.nd rfl rfl (sw_true rfl rfl rfl (by decide +kernel)) (pi_range1 (by rfl) T.z_range (pa_cons pe_int pa_nil)) (blkOk_by (own := [("k", 4)]) (N := ["script", "pot", "names", "bonds", "k", "seats", "whole", "found", "table", "one", "parts", "guard", "token", "config", "state", "mine", "pair", "other"]) (sc := defScope s_law) (by decide +kernel)) (fun _ _ _ _ _ => (pg_name (i := 4) sc_law.nd rfl (Or.inl rfl))) (fun _ _ _ _ _ => pts_nil) (fun _ _ _ _ _ => (pe_op oq_addStr pe_str (pe_callTy cq_strInt (by rfl) T.z_str boot_str (pa_cons (pv 4) pa_nil)))))
      (pss_cons (ps_set (i := 3) sc_law.nd rfl (Or.inl rfl) (pe_lst pa_nil))
      (pss_cons (ps_for PassesOwn.never rfl (pi_range1 (by rfl) T.z_range (pa_cons (pe_op op_add pe_int (pe_call (ok_L_next T) (hr.mono (by decide)) (by rfl) T.g_L_next T.F_L_next.kp T.b_L_next .nil pass0 (pa_cons (pv 1) (pa_cons pe_int pa_nil)))) pa_nil)) (pg_name (i := 4) sc_law.nd rfl (Or.inl rfl))
        (pss_one (ps_expr (pe_bm PySem.F.plainAttrs_list PySem.F.slot_list_append PySem.F.type_list_append mt_append (pv 3) (pa_cons (pe_tup (pa_cons (pe_bm PySem.F.plainAttrs_list PySem.F.slot_list_pop PySem.F.type_list_pop mt_popAt (pv 2) (pa_cons (pe_call (ok_L_next T) (hr.mono (by decide)) (by rfl) T.g_L_next T.F_L_next.kp T.b_L_next .nil pass0 (pa_cons (pv 1) (pa_cons (pe_callB cq_len (by rfl) T.z_len boot_len (pa_cons (pv 2) pa_nil)) pa_nil))) pa_nil)) (pa_cons (pe_ix ix_list (pe_lst (pa_cons pe_int (pa_cons pe_int (pa_cons pe_int (pa_cons pe_int (pa_cons (pe_op op_pow pe_int pe_int) (pa_cons (pe_call (ok_L_next T) (hr.mono (by decide)) (by rfl) T.g_L_next T.F_L_next.kp T.b_L_next .nil pass0 (pa_cons (pv 1) (pa_cons pe_int pa_nil))) pa_nil))))))) (pe_call (ok_L_next T) (hr.mono (by decide)) (by rfl) T.g_L_next T.F_L_next.kp T.b_L_next .nil pass0 (pa_cons (pv 1) (pa_cons pe_int pa_nil))) (fun _ _ => rfl)) pa_nil))) pa_nil)))))
      (pss_cons (ps_set (i := 5) sc_law.nd rfl (Or.inl rfl) (pe_op op_add pe_int (pe_call (ok_L_next T) (hr.mono (by decide)) (by rfl) T.g_L_next T.F_L_next.kp T.b_L_next .nil pass0 (pa_cons (pv 1) (pa_cons pe_int pa_nil)))))
      (pss_cons (ps_set (i := 6) sc_law.nd rfl (Or.inl rfl) (pe_callB (cr_sum rfl) (by rfl) T.z_sum boot_sum (pa_cons (pe_lc (own := [("pair", 16)]) (g := (gName 16)) (tt := tYes) (te := (tOp (rIxT K) (tVar 16) (tC (.int 1)))) rfl sc_law.nd (pi_list (pv 3)) (blkOk_by (own := [("pair", 16)]) (N := ["script", "pot", "names", "bonds", "k", "seats", "whole", "found", "table", "one", "parts", "guard", "token", "config", "state", "mine", "pair", "other"]) (sc := defScope s_law) (by decide +kernel)) (fun _ _ _ _ _ => (pg_name (i := 16) sc_law.nd rfl (Or.inl rfl))) (fun _ _ _ _ _ => pts_nil) (fun _ _ _ _ _ => (pe_ix ix_tup (pv 16) pe_int (fun _ _ => rfl)))) pa_nil)))
      (pss_cons (ps_if (pt_cmpR op_eq (pv 6) pe_int (nomark _)) (pss_one (ps_ret (pe_call (ok_L_refused (P := P) (base := base) (T := T) hcc TB0 T) (hr.mono (by decide)) (by rfl) T.g_L_refused T.F_L_refused.kp T.b_L_refused .nil pass0 (pa_cons (pv 3) (pa_cons (pv 5) pa_nil))))) pss_nil)
      (pss_cons (ps_set (i := 7) sc_law.nd rfl (Or.inl rfl) (pe_call (ok_shares (P := P) (base := base) (T := T) hcc TB0 T) (hr.mono (by decide)) (by rfl) T.g_shares T.F_shares.kp T.b_shares .nil passF (pa_cons (pe_callTy cq_listOf (by rfl) T.z_list boot_list (pa_cons (pv 3) pa_nil)) (pa_cons (pv 5) pa_nil))))
      (pss_cons (ps_if (PW.pt (pw_or (pt_cmpR (op_neD hr.units) (pv 7) (pe_call (ok_L_due T) (hr.mono (by decide)) (by rfl) T.g_L_due T.F_L_due.kp T.b_L_due .nil pass0 (pa_cons (pv 3) (pa_cons (pv 5) pa_nil))) (nomark _)) (pw_or1 (pt_cmpR op_ne (pe_callB (cr_sum rfl) (by rfl) T.z_sum boot_sum (pa_cons (pe_lc (own := [("pair", 16)]) (g := (gName 16)) (tt := tYes) (te := (tOp (rIxT K) (tVar 16) (tC (.int 1)))) rfl sc_law.nd (pi_tup (pv 7)) (blkOk_by (own := [("pair", 16)]) (N := ["script", "pot", "names", "bonds", "k", "seats", "whole", "found", "table", "one", "parts", "guard", "token", "config", "state", "mine", "pair", "other"]) (sc := defScope s_law) (by decide +kernel)) (fun _ _ _ _ _ => (pg_name (i := 16) sc_law.nd rfl (Or.inl rfl))) (fun _ _ _ _ _ => pts_nil) (fun _ _ _ _ _ => (pe_ix ix_tup (pv 16) pe_int (fun _ _ => rfl)))) pa_nil)) (pv 5) (nomark _))))) (pss_one (ps_ret pe_bl)) pss_nil)
      (pss_cons (ps_set (i := 8) sc_law.nd rfl (Or.inr rfl) (pe_callTy (cq_dictPT rfl) (by rfl) T.z_dict boot_dict (pa_cons (pv 7) pa_nil)))
      (pss_cons (ps_for PassesOwn.never rfl (pi_list (pv 3)) (pg_name (i := 9) sc_law.nd rfl (Or.inr rfl))
        (pss_cons (ps_set (i := 15) sc_law.nd rfl (Or.inr rfl) (pe_dget2 hu (pv 8) (pe_ix ix_tup (pv 9) pe_int (fun _ _ => rfl)) pe_int ⟨rfl, rfl, rfl, rfl⟩))
      (pss_cons (ps_if (pt_not (pt_chain op_le op_le (pe_op op_fdivW (pe_op op_mul (pv 5) (pe_ix ix_tup (pv 9) pe_int (fun _ _ => rfl))) (pv 6)) (pv 15) (pe_op op_fdivW (pe_op op_sub (pe_op op_add (pe_op op_mul (pv 5) (pe_ix ix_tup (pv 9) pe_int (fun _ _ => rfl))) (pv 6)) pe_int) (pv 6)))) (pss_one (ps_ret pe_bl)) pss_nil)
      (pss_one (ps_if (pt_val (pe_callB (cr_any rfl) (by rfl) T.z_any boot_any (pa_cons (pe_lc (own := [("other", 17)]) (g := (gName 17)) (tt := tYes) (te := (tAndV (tOp (rI0 fun i j => .bl (decide (j < i))) (tOp (rIxT K) (tVar 9) (tC (.int 1))) (tOp (rIxT K) (tVar 17) (tC (.int 1)))) (tOp (rI0 fun i j => .bl (decide (i < j))) (tVar 15) (tDGet2 (tVar 8) (tOp (rIxT K) (tVar 17) (tC (.int 0))) (tC (.int 0)))))) rfl sc_law.nd (pi_list (pv 3)) (blkOk_by (own := [("other", 17)]) (N := ["script", "pot", "names", "bonds", "k", "seats", "whole", "found", "table", "one", "parts", "guard", "token", "config", "state", "mine", "pair", "other"]) (sc := defScope s_law) (by decide +kernel)) (fun _ _ _ _ _ => (pg_name (i := 17) sc_law.nd rfl (Or.inl rfl))) (fun _ _ _ _ _ => pts_nil) (fun _ _ _ _ _ => (pe_and (pe_cmpR op_gt (pe_ix ix_tup (pv 9) pe_int (fun _ _ => rfl)) (pe_ix ix_tup (pv 17) pe_int (fun _ _ => rfl)) (nomark _)) (pe_one (pe_cmpR op_lt (pv 15) (pe_dget2 hu (pv 8) (pe_ix ix_tup (pv 17) pe_int (fun _ _ => rfl)) pe_int ⟨rfl, rfl, rfl, rfl⟩) (nomark _)))))) pa_nil))) (pss_one (ps_ret pe_bl)) pss_nil)))))
      (pss_cons (ps_set (i := 10) sc_law.nd rfl (Or.inl rfl) (pe_call (ok_L_config T) (hr.mono (by decide)) (by rfl) T.g_L_config T.F_L_config.kp T.b_L_config .nil pass0 (pa_cons (pv 1) pa_nil)))
      (pss_cons (ps_set (i := 11) sc_law.nd rfl (Or.inl rfl) (pe_ix ix_tup (pe_ix ix_tup (pe_dget hu (pv 10) pe_str (fun _ _ => rfl)) pe_int (fun _ _ => rfl)) pe_int (fun _ _ => rfl)))
      (pss_cons (ps_set (i := 12) sc_law.nd rfl (Or.inl rfl) (pe_ix ix_list (pe_dget hu (pv 10) pe_str (fun _ _ => rfl)) pe_int (fun _ _ => rfl)))
      (pss_cons (ps_set (i := 13) sc_law.nd rfl (Or.inl rfl) (pe_call (ok_L_made T) (hr.mono (by decide)) (by rfl) T.g_L_made T.F_L_made.kp T.b_L_made .nil pass0 (pa_cons (pv 10) pa_nil)))
      (pss_cons (ps_set (i := 14) sc_law.nd rfl (Or.inl rfl) (pe_call (ok_opening_state T) (hr.mono (by decide)) (by rfl) T.g_opening_state T.F_opening_state.kp T.b_opening_state .nil pass0 (pa_cons (pv 13) (pa_cons (pe_ix ix_tup (pv 12) pe_int (fun _ _ => rfl)) pa_nil))))
      (pss_cons (ps_set (i := 14) sc_law.nd rfl (Or.inl rfl) (pe_ix ix_tup (pe_call (ok_outcome (P := P) (base := base) (T := T) KD T) (hr.mono (by decide)) (by rfl) T.g_outcome T.F_outcome.kp T.b_outcome .nil pass0 (pa_cons (pv 13) (pa_cons (pe_make0 T.mk_Notary (ok_Notary_init T) (hr.mono (by decide)) (by rfl) T.g_Notary T.b_Notary_init .nil pass0) (pa_cons (pv 14) (pa_cons (pe_tup (pa_cons pe_str (pa_cons (pv 11) (pa_cons (pe_ix ix_tup (pv 12) pe_int (fun _ _ => rfl)) (pa_cons (pe_op op_add pe_int (pe_call (ok_L_next T) (hr.mono (by decide)) (by rfl) T.g_L_next T.F_L_next.kp T.b_L_next .nil pass0 (pa_cons (pv 1) (pa_cons pe_int pa_nil)))) pa_nil))))) pa_nil))))) pe_int (fun _ _ => rfl)))
      (pss_cons (ps_if (PW.pt (pw_or (pt_cmpR (op_neD hr.units) (pe_call (ok_next_set (P := P) (base := base) (T := T) hcc TB0 T) (hr.mono (by decide)) (by rfl) T.g_next_set T.F_next_set.kp T.b_next_set .nil pass0 (pa_cons (pv 14) (pa_cons (pe_ix ix_tup (pv 12) pe_int (fun _ _ => rfl)) (pa_cons (pv 5) pa_nil)))) (pe_tup (pa_cons (pe_tup (pa_cons (pv 11) (pa_cons (pv 5) pa_nil))) pa_nil)) (nomark _)) (pw_or1 (pt_cmpR (op_neD hr.units) (pe_meth (pv 14) T.cl_State T.m_State_bonded_guards (ok_State_bonded_guards T) (hr.mono (by decide)) T.b_State_bonded_guards .nil pass0 (pa_cons (pe_ix ix_tup (pv 12) pe_int (fun _ _ => rfl)) pa_nil)) (pe_lst (pa_cons (pv 11) pa_nil)) (nomark _))))) (pss_one (ps_ret pe_bl)) pss_nil)
      (pss_one (ps_ret (pe_and (pe_call (ok_L_refused (P := P) (base := base) (T := T) hcc TB0 T) (hr.mono (by decide)) (by rfl) T.g_L_refused T.F_L_refused.kp T.b_L_refused .nil pass0 (pa_cons (pv 3) (pa_cons pe_int pa_nil))) (pe_one (pe_call (ok_L_refused (P := P) (base := base) (T := T) hcc TB0 T) (hr.mono (by decide)) (by rfl) T.g_L_refused T.F_L_refused.kp T.b_L_refused .nil pass0 (pa_cons (pe_lst pa_nil) (pa_cons pe_int pa_nil))))))))))))))))))))))))), ?_⟩
    (dsimp only [cxOf, Cx.nox, Cx.wish, L2.start, List.map, List.length, List.replicate, List.cons_append, List.nil_append, List.append_eq, Nat.reduceSub, Nat.reduceAdd])
    walk_at "my_rd"
    refine ⟨a0, ns0, rfl, hS, hlen, fun p l H1 np nl0 pot1 sm1 => ?_⟩
    have hT1 : LamX.TabS H1 P0 shQ := LamX.TabS.nil (sm1 _ _ hT0)
    clear hS hT0 sm1 nl0
    walk_at "my_rd"
    refine q_lcR ⟨by decide, by decide⟩ (fun N nN => ⟨fun i H2 => Same H1 H2 ∧ H2 N = some (.lst (((List.range i).map nm).map V.str)), ⟨Same.new (Same.refl _) nN, upd_same⟩, ?_, ?_⟩)
    · rintro i H2 hi ⟨sm, hD⟩
      have hi7 : i < 7 := by omega
      walk_at "my_rd"
      refine ⟨rfl, ?_⟩
      walk_at "my_rd"
      refine q_strInt (Nat.lt_of_le_of_lt (Nat.log2_le_self _) (by omega)) ?_
      refine q_addStr ?_ ?_
      · have := nm_short i hi7
        have h1 : (Str.ofString "g").length = 1 := rfl
        exact Nat.le_of_lt (small1000 (by omega))
      · walk_at "my_rd"
        refine q_accK hD (by rw [List.length_map, List.length_map, List.length_range]; exact small1000 (by omega)) ⟨Same.new sm nN, ?_⟩
        rw [upd_same, List.range_succ, List.map_append, List.map_append]
        rfl
    rintro H2 ⟨sm, hN⟩
    have hN : H2 N = some (.lst (allNames.map V.str)) := hN
    have pot2 := pot1.same sm
    have hT2 := hT1.ext sm
    have nNp : N ≠ p := pot1.nep nN
    have nNl : N ≠ l := pot1.nel nN
    clear pot1 hT1 sm nN
    walk_at "my_rd"
    refine q_lstK (Nat.zero_le _) fun F nF => ?_
    have nNF : N ≠ F := ne_of_none hN nF
    have nFp : F ≠ p := pot2.nep nF
    have nFl : F ≠ l := pot2.nel nF
    walk_at "my_rd"
    refine ⟨p, l, 7, rfl, pot2.new nF, by decide, by decide, fun r H4 r0 r1 pot4 kp4 => ?_⟩
    have hN4 : H4 N = some (.lst (allNames.map V.str)) := Kp.get kp4 (upd_new nF hN) nNp
    have hF4 : H4 F = some (.lst []) := Kp.get kp4 upd_same nFp
    have hT4 : LamX.TabS H4 P0 shQ := kp_tab (pot2.new nF) (hT2.ext fun b o q => upd_new nF q) kp4
    clear pot2 hT2 hN nF kp4
    walk_at "my_rd"
    refine q_forR ⟨by omega, by omega⟩ (fun i σ H5 => ∃ (ss : List Str) (xs : List V) (gs : Gs) (kv : Option V), σ = [some (.ref a0), some (.ref p), some (.ref N), some (.ref F), kv, none, none, none, none, none, none, none, none, none, none, none, none, none] ∧ H5 N = some (.lst (ss.map V.str)) ∧ H5 F = some (.lst xs) ∧ PairsAt H5 xs gs ∧ gs.length = i ∧ ss.length + i = 7 ∧ (gs.map (·.1) ++ ss).Nodup ∧ (∀ g ∈ gs, 0 ≤ g.2 ∧ g.2 ≤ 1000000000) ∧ (∀ g ∈ gs, g.1 ∈ allNames) ∧ (∀ z ∈ ss, z ∈ allNames) ∧ PotAt H5 p l ∧ LamX.TabS H5 P0 shQ)
      ⟨allNames, [], [], none, rfl, hN4, hF4, PairsAt.nil, rfl, allNames_len, allNames_nodup, by simp, by simp, fun z hz => hz, pot4, hT4⟩ ?_ ?_
    · rintro i σ H5 hi ⟨ss, xs, gs, kv, rfl, hN5, hF5, hP5, hl, hsl, hnd, hb5, hnm5, hss5, pot5, hT5⟩
      walk_at "my_rd"
      refine ⟨p, l, _, rfl, pot5, by rw [List.length_map]; omega, by rw [List.length_map]; omega, fun r2 H6 y0 y1 pot6 kp6 => ?_⟩
      rw [List.length_map] at y1
      have hN6 : H6 N = some (.lst (ss.map V.str)) := Kp.get kp6 hN5 nNp
      have hF6 : H6 F = some (.lst xs) := Kp.get kp6 hF5 nFp
      have hP6 := hP5.kp pot5 kp6
      have hT6 := kp_tab pot5 hT5 kp6
      have hr2 : r2.toNat < ss.length := by omega
      have hx : ss[r2.toNat]? = some ss[r2.toNat] := List.getElem?_eq_getElem hr2
      walk_at "my_rd"
      refine q_popAt (n := r2.toNat) hN6 (by omega) (by rw [List.length_map]; exact hr2) (by omega) (v := .str ss[r2.toNat]) (by rw [List.getElem?_map, hx]; rfl) ?_
      rw [map_erase]
      generalize hH7 : upd H6 N (HO.lst ((ss.eraseIdx r2.toNat).map V.str)) = H7
      have hN7 : H7 N = some (.lst ((ss.eraseIdx r2.toNat).map V.str)) := by rw [← hH7]; exact upd_same
      have hF7 : H7 F = some (.lst xs) := by rw [← hH7]; exact upd_other nNF.symm hF6
      have hP7 : PairsAt H7 xs gs := by rw [← hH7]; exact hP6.updL hN6
      have pot7 : PotAt H7 p l := by rw [← hH7]; exact pot6.upd nNp nNl
      have hT7 : LamX.TabS H7 P0 shQ := by
        obtain ⟨ps, h1, h2, h3⟩ := hT6
        rw [← hH7]
        refine ⟨ps, upd_other (ne_of h1 hN6 (by intro z; cases z)) h1, h2, fun pos cv hc => ?_⟩
        obtain ⟨c, e1, e2⟩ := h3 pos cv hc
        exact ⟨c, e1, upd_other (ne_of e2 hN6 (by intro z; cases z)) e2⟩
      clear hN5 hF5 hP5 pot5 hT5 hN6 hF6 hP6 pot6 hT6 kp6 hH7
      walk_at "my_rd"
      refine ⟨p, l, 100, rfl, pot7, by decide, by decide, fun v6 H8 b0 b1 pot8 kp8 => ?_⟩
      have hN8 := Kp.get kp8 hN7 nNp
      have hF8 := Kp.get kp8 hF7 nFp
      have hP8 := hP7.kp pot7 kp8
      have hT8 := kp_tab pot7 hT7 kp8
      clear hN7 hF7 hP7 pot7 hT7 kp8
      walk_at "my_rd"
      refine q_lstK (by show 6 ≤ sizeLine; decide) fun M nM => ?_
      walk_at "my_rd"
      refine ⟨p, l, 6, rfl, pot8.new nM, by decide, by decide, fun r3 H9 d0 d1 pot9 kp9 => ?_⟩
      have hM9 : H9 M = some (.lst [.int 0, .int 1, .int 5, .int 5, .int (10 ^ (9 : Int).toNat), .int v6]) := Kp.get kp9 upd_same (pot8.nep nM)
      have hN9 := Kp.get kp9 (upd_new nM hN8) nNp
      have hF9 := Kp.get kp9 (upd_new nM hF8) nFp
      have hP9 := (hP8.new nM).kp (pot8.new nM) kp9
      have hT9 := kp_tab (pot8.new nM) (hT8.ext fun b o q => upd_new nM q) kp9
      clear hN8 hF8 hP8 hT8 kp9
      obtain ⟨v, hv, v0, v1⟩ : ∃ v : Int, atI [V.int 0, V.int 1, V.int 5, V.int 5, V.int (10 ^ (9 : Int).toNat), V.int v6] r3 = some (.int v) ∧ 0 ≤ v ∧ v ≤ 1000000000 := by
        have : r3 = 0 ∨ r3 = 1 ∨ r3 = 2 ∨ r3 = 3 ∨ r3 = 4 ∨ r3 = 5 := by omega
        rcases this with rfl | rfl | rfl | rfl | rfl | rfl
        · exact ⟨0, rfl, by omega, by omega⟩
        · exact ⟨1, rfl, by omega, by omega⟩
        · exact ⟨5, rfl, by omega, by omega⟩
        · exact ⟨5, rfl, by omega, by omega⟩
        · exact ⟨1000000000, rfl, by omega, by omega⟩
        · exact ⟨v6, rfl, by omega, by omega⟩
      walk_at "my_rd"
      refine q_ixLt hM9 hv ?_
      walk_at "my_rd"
      refine q_tupK (by show 2 ≤ sizeLine; decide) fun U nU => ?_
      walk_at "my_rd"
      refine q_append (upd_new nU hF9) (by rw [hP9.len]; exact small1000 (by omega)) ?_
      walk_at "my_rd"
      refine ⟨ss.eraseIdx r2.toNat, xs ++ [.ref U], gs ++ [(ss[r2.toNat], v)], _, rfl, upd_other nNF (upd_new nU hN9), upd_same, ((hP9.new nU).snoc (g := (ss[r2.toNat], v)) upd_same).updL (upd_new nU hF9), by rw [List.length_append, hl]; rfl, by rw [List.length_eraseIdx_of_lt hr2]; omega, by rw [List.map_append]; exact names_pop hx hnd, ?_, ?_, fun z hz => hss5 z (List.mem_of_mem_eraseIdx hz), (pot9.new nU).upd nFp nFl, ?_⟩
      · intro g hg
        rcases List.mem_append.mp hg with h | h
        · exact hb5 g h
        · rw [List.mem_singleton.mp h]; exact ⟨v0, v1⟩
      · intro g hg
        rcases List.mem_append.mp hg with h | h
        · exact hnm5 g h
        · rw [List.mem_singleton.mp h]; exact hss5 _ (List.mem_of_getElem? hx)
      · obtain ⟨ps, h1, h2, h3⟩ := hT9.ext (H' := upd H9 U (.tup [.str ss[r2.toNat], .int v])) fun b o q => upd_new nU q
        have hF10 := upd_new (w := HO.tup [.str ss[r2.toNat], .int v]) nU hF9
        refine ⟨ps, upd_other (ne_of h1 hF10 (by intro z; cases z)) h1, h2, fun pos cv hc => ?_⟩
        obtain ⟨c, e1, e2⟩ := h3 pos cv hc
        exact ⟨c, e1, upd_other (ne_of e2 hF10 (by intro z; cases z)) e2⟩
    rintro σ H5 ⟨ss, xs, gs, kv, rfl, hN5, hF5, hP5, hl, hsl, hnd, hb5, hnm5, hss5, pot5, hT5⟩
    have hl7 : gs.length ≤ 7 := by omega
    have hnd5 : (nam gs).Nodup := (List.nodup_append.mp hnd).1
    have hok5 : ∀ g ∈ gs, PyData.strOk g.1 = true := fun g hg => (gnames_ok _ (hnm5 g hg)).2.2
    clear hN5 hsl hnd hl hN4 hss5 hnm5 hF4 hT4 pot4 nNF nNp nNl
    walk_at "my_rd"
    refine ⟨p, l, 20, rfl, pot5, by decide, by decide, fun n0 H6 e0 e1 pot6 kp6 => ?_⟩
    have hI6 : InL K H6 F xs gs := ⟨sqL (Kp.get kp6 hF5 nFp), hP5.kp pot5 kp6, by omega, hnd5, hb5⟩
    have hT6 := kp_tab pot5 hT5 kp6
    clear hF5 hP5 pot5 hT5 kp6 hnd5 hb5
    obtain ⟨n, hn, hn1, hn2⟩ : ∃ n, 1 + n0 = n ∧ 1 ≤ n ∧ n ≤ 1000 := ⟨_, rfl, by omega, by omega⟩
    walk_at "my_rd"
    rw [hn]
    clear hn e0 e1
    walk_at "my_rd"
    refine q_lcL hI6.s fun D nD => ⟨fun i H2 => Same H6 H2 ∧ H2 D = some (.lst (((gs.take i).map (·.2)).map V.int)), ⟨Same.new (Same.refl _) nD, upd_same⟩, fun i H2 _ ⟨sm, _⟩ => sqL_same hI6.s sm, fun i x H2 hx ⟨sm, hD⟩ => ?_, fun H2 ⟨sm, hD⟩ => ?_⟩
    · obtain ⟨g, b, hg, rfl, hgb⟩ := hI6.p.item hx
      walk_at "my_rd"
      refine ⟨rfl, ?_⟩
      have hgb2 := sm _ _ hgb
      walk_at "my_rd"
      refine q_accK hD (by rw [List.length_map, List.length_map, List.length_take]; exact small1000 (by omega)) ⟨Same.new sm nD, ?_⟩
      rw [upd_same, take_snoc hg, List.map_append, List.map_append]
      rfl
    rw [hI6.p.len, List.take_length] at hD
    walk_at "my_rd"
    refine q_sum (sqL hD) ?_
    rw [show (gs.map (·.2)).sum = wsum gs from rfl]
    have hI7 := hI6.same sm
    have hT7 := hT6.ext sm
    have pot7 := pot6.same sm
    clear hI6 hT6 pot6 nD hD sm
    walk_at "my_rd"
    refine q_if2 (fun h1 => ?_) (fun h1 => ?_)
    · walk_at "my_rd"
      refine ⟨F, xs, gs, n, rfl, hI7, hn2, hT7, .inr (dec_t h1), fun H' s => ?_⟩
      walk_at "my_rd"
      exact k _
    have hw1 : 0 < wsum gs := by
      have h2 : ¬ wsum gs = 0 := dec_f h1
      have h3 := wsum_nn fun b m => (hI7.b b m).1
      omega
    have hno : ¬ nobody gs n := by unfold nobody; omega
    have ok : BdOk gs n := ⟨hI7.nd, fun b m => (hI7.b b m).1, hw1, hn1⟩
    have hw2 : wsum gs ≤ 50000000000 := by
      have := wsum_le (gs := gs) (m := 1000000000) fun b m => (hI7.b b m).2
      omega
    clear h1
    walk_at "my_rd"
    refine q_listL hI7.s fun kp nkp => ?_
    have s8 : Same H2 (upd H2 kp (.lst xs)) := Same.new (Same.refl _) nkp
    have hI8 := hI7.same s8
    have hK8 : InL K (upd H2 kp (.lst xs)) kp xs gs := ⟨sqL upd_same, hI8.p, hI8.l, hI8.nd, hI8.b⟩
    have hT8 := hT7.ext s8
    have pot8 := pot7.same s8
    generalize upd H2 kp (.lst xs) = H8 at hI8 hK8 hT8 pot8 ⊢
    clear hI7 hT7 pot7 s8 nkp
    walk_at "my_rd"
    refine ⟨kp, xs, gs, n, rfl, hK8.s, hK8.p, hK8.l, hK8.nd, hK8.b, hn2, hT8, fun q => absurd q hno, fun _ r o ys H9 e9 t9 hr9 ho9 hP9 => ?_⟩
    have hI9 := hI8.extN e9
    have pot9 := pot8.extN e9
    clear hI8 hK8 hT8 pot8 e9
    walk_at "my_rd"
    refine ⟨F, xs, gs, n, rfl, hI9, hn1, hn2, hw1, fun r2 ys2 H10 s10 hr10 hP10 => ?_⟩
    have hI10 := hI9.same s10
    have pot10 := pot9.same s10
    have t10 := t9.ext s10
    have hrA := s10 _ _ hr9
    have hPA := hP9.same s10
    clear hI9 pot9 t9 hr9 hP9 s10
    have hsk : ∀ g ∈ shr gs n, PyData.strOk g.1 = true := fun g hg => by
      obtain ⟨b, hb, e⟩ := List.mem_map.mp (shr_nam hg)
      rw [← e]
      exact hok5 b hb
    walk_at "my_rd"
    refine q_neD (.tup (.inl (.inr ⟨o, hrA⟩)) hPA.tall.dp) (.tup (sqT hr10) hP10.tall.dp) (pairs_sh hsk) (pairs_sh hsk) ?_
    rw [pairs_eq hsk]
    clear hr10 hP10
    walk_at "my_rd"
    have hsl : (shr gs n).length ≤ gs.length := by
      unfold shr
      have h1 := List.length_filter_le (fun p : Str × Int => decide (0 < p.2)) ((nsrt (nam gs)).map fun y => (y, seat gs n y))
      rw [List.length_map, (nsrt_perm _).length_eq] at h1
      unfold nam at h1
      rw [List.length_map] at h1
      exact h1
    refine q_lcT (S := ys) (.inl (.inr ⟨o, hrA⟩)) fun D nD => ⟨fun i H2 => Same H10 H2 ∧ H2 D = some (.lst ((((shr gs n).take i).map (·.2)).map V.int)), ⟨Same.new (Same.refl _) nD, upd_same⟩, fun i H2 _ ⟨sm, _⟩ => .inl (.inr ⟨o, sm _ _ hrA⟩), fun i x H2 hx ⟨sm, hD⟩ => ?_, fun H2 ⟨sm, hD⟩ => ?_⟩
    · obtain ⟨g, b, hg, rfl, hgb⟩ := hPA.item hx
      walk_at "my_rd"
      refine ⟨rfl, ?_⟩
      have hgb2 := sm _ _ hgb
      walk_at "my_rd"
      refine q_accK hD (by rw [List.length_map, List.length_map, List.length_take]; exact small1000 (by omega)) ⟨Same.new sm nD, ?_⟩
      rw [upd_same, take_snoc hg, List.map_append, List.map_append]
      rfl
    rw [hPA.len, List.take_length] at hD
    walk_at "my_rd"
    refine q_sum (sqL hD) ?_
    rw [show ((shr gs n).map (·.2)).sum = n from sum_shr ok]
    have hI11 := hI10.same sm
    have pot11 := pot10.same sm
    have t11 := t10.ext sm
    have hrB := sm _ _ hrA
    obtain ⟨ps, eps, hps⟩ := pairs_ps (K := K) (hPA.same sm)
    clear hI10 pot10 t10 hrA hPA sm hD nD
    walk_at "my_rd"
    rw [show (!decide (n = n)) = false by simp]
    walk_at "my_rd"
    subst eps
    refine ⟨r, o, ps, rowK (shr gs n), rfl, hrB, ho9, hps, fun tb ntb => ?_⟩
    rw [merge_row (shr_nd hI11.nd)]
    have s12 : Same H2 (upd H2 tb (.dK (rowK (shr gs n)))) := Same.new (Same.refl _) ntb
    have hI12 := hI11.same s12
    have pot12 := pot11.same s12
    have t12 := t11.ext s12
    have hd12 : upd H2 tb (.dK (rowK (shr gs n))) tb = some (.dK (rowK (shr gs n))) := upd_same
    generalize upd H2 tb (.dK (rowK (shr gs n))) = H12 at hI12 pot12 t12 hd12 ⊢
    clear hI11 pot11 t11 hrB hps s12 ntb
    have hmul : ∀ (i : Nat) (g : Str × Int), gs[i]? = some g → 0 ≤ n * g.2 ∧ n * g.2 ≤ 1000000000000 ∧ 0 ≤ g.2 ∧ g.2 ≤ 1000000000 := fun i g hg => by
      obtain ⟨h1, h2⟩ := hI12.b g (List.mem_of_getElem? hg)
      have h3 := Int.mul_nonneg (show 0 ≤ n by omega) h1
      have h4 : n * g.2 ≤ 1000 * 1000000000 := Int.mul_le_mul hn2 h2 h1 (by omega)
      exact ⟨h3, by omega, h1, h2⟩
    have hgt : ∀ (i : Nat) (g : Str × Int), gs[i]? = some g → getRow gs g.1 = g.2 ∧ (valV (rowK (shr gs n)) (Sum.inr g.1)).getD (.int 0) = .int (seat gs n g.1) := fun i g hg => by
      have hm := List.mem_of_getElem? hg
      exact ⟨getRow_mem hI12.nd g hm, by rw [rowK_get, get_shr ok (List.mem_map.mpr ⟨g, hm, rfl⟩)]⟩
    walk_at "my_rd"
    refine q_forL hI12.s (fun i σ H' => ∃ v9 v15 : Option V, σ = [some (.ref a0), some (.ref p), some (.ref N), some (.ref F), kv, some (.int n), some (.int (wsum gs)), some (.ref r), some (.ref tb), v9, none, none, none, none, none, v15, none, none] ∧ Same H12 H') ⟨none, none, rfl, Same.refl _⟩ (fun i σ H' _ ⟨_, _, _, s⟩ => sqL_same hI12.s s) ?_ ?_
    · rintro i v σ H' hv ⟨v9, v15, rfl, sm⟩
      obtain ⟨g, b, hg, rfl, hgb⟩ := hI12.p.item hv
      obtain ⟨hm0, hm1, hg0, hg1⟩ := hmul i g hg
      obtain ⟨hg2, hg3⟩ := hgt i g hg
      have hgb2 := sm _ _ hgb
      have hd2 := sm _ _ hd12
      walk_at "my_rd"
      refine q_dG2S hd2 ?_
      rw [hg3]
      walk_at "my_rd"
      refine q_I (wide_div (b := 40) hw1 (by omega) (by decide) (by decide)) ?_
      walk_at "my_rd"
      have hlo : n * g.2 / wsum gs ≤ seat gs n g.1 := by have := seat_lo gs n g.1; rw [hg2] at this; exact this
      have hhi : seat gs n g.1 ≤ (n * g.2 + wsum gs - 1) / wsum gs := by have := seat_hi ok g.1; rw [hg2] at this; exact this
      refine q_ch2 (fun _ => ?_) (fun h1 => absurd hlo (dec_f h1))
      walk_at "my_rd"
      refine q_I (wide_div (b := 40) hw1 (by omega) (by decide) (by decide)) ?_
      walk_at "my_rd"
      rw [decide_eq_true hhi]
      walk_at "my_rd"
      refine ⟨F, rfl, ⟨_, sqL_same hI12.s sm⟩, fun D nD => ?_⟩
      refine lc_it (walk_list (xs := xs)) (fun j H2 => Same H' H2 ∧ ∃ bs : List Bool, H2 D = some (.lst (bs.map V.bl)) ∧ bs.any id = false ∧ bs.length = j) ⟨Same.new (Same.refl _) nD, [], upd_same, rfl, rfl⟩ (fun j H2 _ ⟨s, _⟩ => sqL_same hI12.s (sm.trans s)) ?_ ?_
      · rintro j x H2 H3 hj ⟨s, bs, hB, hbf, hbl⟩ ⟨rfl, hx⟩
        obtain ⟨q, qb, hq, rfl, hqb⟩ := hI12.p.item hx
        obtain ⟨hq2, hq3⟩ := hgt j q hq
        have hqb2 := s _ _ (sm _ _ hqb)
        have hgb3 := s _ _ hgb2
        have hd3 := s _ _ hd2
        have done : bs.map V.bl ++ [V.bl false] = (bs ++ [false]).map V.bl := by rw [List.map_append]; rfl
        have hfin : (bs.map V.bl).length < sizeLine := by rw [List.length_map, hbl]; exact small1000 (by have := hI12.l; have := hI12.p.len; omega)
        have hany : (bs ++ [false]).any id = false := by rw [List.any_append, hbf]; rfl
        walk_at "my_rd"
        refine ⟨rfl, ?_⟩
        walk_at "my_rd"
        refine iteT ?_
        walk_at "my_rd"
        refine q_andV2 (fun h1 => ?_) (fun h1 => ?_)
        · have h1 := dec_t h1
          have hms : ¬ seat gs n g.1 < seat gs n q.1 := by
            have := seat_mono ok (x := g.1) (y := q.1) (by rw [hg2, hq2]; omega)
            omega
          walk_at "my_rd"
          refine q_dG2S hd3 ?_
          rw [hq3]
          walk_at "my_rd"
          rw [decide_eq_false hms]
          exact ⟨_, hB, hfin, Same.new s nD, bs ++ [false], by rw [upd_same, done], hany, by rw [List.length_append, hbl]; rfl⟩
        · exact ⟨_, hB, hfin, Same.new s nD, bs ++ [false], by rw [upd_same, done], hany, by rw [List.length_append, hbl]; rfl⟩
      · rintro H2 ⟨s, bs, hB, hbf, hbl⟩
        walk_at "my_rd"
        refine q_any (sqL hB) ?_
        rw [hbf]
        walk_at "my_rd"
        exact ⟨_, _, rfl, sm.trans s⟩
    rintro σ H13 ⟨v9, v15, rfl, s13⟩
    have pot13 := pot12.same s13
    have hI13 := hI12.same s13
    have t13 := t12.ext s13
    clear pot12 hI12 t12 hd12 s13 hmul hgt
    walk_at "my_rd"
    refine ⟨p, l, rfl, pot13, fun d c gs2 tl bl g tv bv gv H14 nd ntl nbl hp14 hc pot14 kp14 => ?_⟩
    have hI14 := hI13.kp nFp pot13 kp14
    have t14 := kp_tab pot13 t13 kp14
    clear hI13 pot13 t13 kp14 nd ntl nbl
    walk_at "my_rd"
    refine q_dGetS hp14.dict (by (repeat first | rfl | rw [valV_cons, if_pos rfl] | rw [valV_cons, if_neg (by decide +kernel)])) ?_
    obtain ⟨bs0, t0, g0, ht0, hg0, hba, hacc⟩ := hc.la
    obtain ⟨ga, hga, hgt⟩ := hp14.gp.at_ 0 g0 hg0
    obtain ⟨ta, hta, htt⟩ := hp14.tr.at_ 0 t0 ht0
    have htt : H14 ta = some (.tup [.str t0.name, .str t0.home, .int t0.scale, .int t0.limit, .int t0.large]) := htt
    walk_at "my_rd"
    refine q_ixTt hp14.gt (at_int (n := 0) rfl hga) ?_
    walk_at "my_rd"
    refine q_dGetS hp14.dict (by (repeat first | rfl | rw [valV_cons, if_pos rfl] | rw [valV_cons, if_neg (by decide +kernel)])) ?_
    walk_at "my_rd"
    refine q_ixLt hp14.tl (at_int (n := 0) rfl hta) ?_
    walk_at "my_rd"
    refine ⟨d, c, gs2, tl, bl, g, tv, bv, gv, rfl, hp14, hc, fun cf H15 ncf hC15 s15 => ?_⟩
    have hI15 := hI14.same s15
    have pot15 := pot14.same s15
    have t15 := t14.ext s15
    have htt15 := s15 _ _ htt
    clear hI14 pot14 t14 hp14 hgt hga htt ncf s15
    walk_at "my_rd"
    refine ⟨cf, g, c, t0.home, rfl, hC15, hc.ok, fun y H16 M ny hM hMf hfr s16 => ?_⟩
    obtain ⟨m1, m2, m3, m4, m5, m6, m7, m8, m9, m10, m11, m12, m13, m14, m15⟩ := hMf
    have hC16 := hC15.same s16
    have hI16 := hI15.same s16
    have pot16 := pot15.same s16
    have t16 := t15.ext s16
    have htt16 := s16 _ _ htt15
    obtain ⟨po, hpo⟩ := pot15.at
    have hMp : ∀ b, b = y ∨ b ∈ M.all → b ≠ p := fun b m e => by
      subst e
      rcases m with e | m
      · rw [e, ny] at hpo; cases hpo
      · rw [hfr _ m] at hpo; cases hpo
    have h60 : 60 ≤ heldT M.S.bal t0.name g0.1 := by rw [m13]; exact has60 hc.ok hba (List.mem_of_getElem? ht0)
    have hBb : TabB 900 M.S.bal := by
      rw [m13]
      refine (openT_B _ _ rfl).mono ?_
      have := List.length_filter_le (fun b => decide (c.homeOf b.tok = t0.home)) c.bals
      have := hc.bl
      omega
    have hBn : (M.S.bal.map (·.1)).Nodup := by rw [m13]; exact openT_nd _
    clear hI15 pot15 t15 htt15 hC15 hfr ny s16 hpo
    walk_at "my_rd"
    intro nt dx nnt ndx hdx
    refine ⟨nt, dx, rfl, upd_same, fun H17 kp17 => ⟨rfl, ?_⟩⟩
    have s17 : Same H16 H17 := fun b o q => kp17 b o (upd_other (ne_of_none q nnt) (upd_new ndx q)) (ne_of_none q nnt)
    have hM17 := hM.same s17
    have hC17 := hC16.same s17
    have hI17 := hI16.same s17
    have pot17 := pot16.same s17
    have t17 := t16.ext s17
    have htt17 := s17 _ _ htt16
    clear hM hC16 hI16 pot16 t16 htt16 kp17 nnt ndx hdx s17
    walk_at "my_rd"
    refine ⟨p, l, 60, rfl, pot17, by decide, by decide, fun am0 H18 z0 z1 pot18 kp18 => ?_⟩
    have hM18 : StAt T.C_State T.C_Sheet H18 y M := hM17.keep fun b m o q => kp18 b o q (hMp b m)
    have hC18 := hC17.pot pot17 kp18
    have hI18 := hI17.kp nFp pot17 kp18
    have t18 := kp_tab pot17 t17 kp18
    have htt18 := kp18.tup pot17 htt17
    clear hM17 hC17 hI17 pot17 t17 htt17 kp18
    walk_at "my_rd"
    refine q_tupK (Nat.le_of_ble_eq_true rfl) fun od nod => ?_
    walk_at "my_rd"
    have s19 : Same H18 (upd H18 od (.tup [.str "bond", .str g0.1, .str t0.name, .int (1 + am0)])) := Same.new (Same.refl _) nod
    refine ⟨cf, nt, y, od, g, c, t0, M, g0.1, 1 + am0, rfl, upd_same, hC18.same s19, hc.ok, List.mem_of_getElem? ht0, by omega, hM18.same s19, m1, hBb, hBn, m14, by omega, fun o1 x1 L1 M1 H20 ho1 hM20 s20 hcf20 hbn20 => ?_⟩
    have s21 := s19.trans s20
    have hC20 := hC18.same s21
    have hI20 := hI18.same s21
    have pot20 := pot18.same s21
    have t20 := t18.ext s21
    have htt20 := s21 _ _ htt18
    clear hM18 hC18 hI18 pot18 t18 htt18 nod s19 s20 s21 hMp h60 hBb hBn
    walk_at "my_rd"
    have hgk : PyData.strOk g0.1 = true := (gnames_ok _ (hc.gd.nms g0 (List.mem_of_getElem? hg0))).2.2
    refine ⟨x1, g, c, t0, M1, g0.1, 1 + am0, n, rfl, hM20, by rw [hcf20]; exact hC20, List.mem_of_getElem? ht0, hbn20, by omega, by omega, hn1, hn2, t20, fun rr qq oo H21 e21 t21 hrr hqq => ?_⟩
    have hM21 := hM20.extN e21
    have hC21 := hC20.extN e21
    have hI21 := hI20.extN e21
    have htt21 := e21 _ _ htt20 (by intro k z; cases z)
    clear hM20 hC20 hI20 pot20 t20 htt20 e21 ho1
    walk_at "my_rd"
    refine q_tupK (Nat.le_of_ble_eq_true rfl) fun V1 nV1 => ?_
    walk_at "my_rd"
    refine q_tupK (Nat.le_of_ble_eq_true rfl) fun V2 nV2 => ?_
    walk_at "my_rd"
    have s22 : Same H21 (upd (upd H21 V1 (.tup [.str g0.1, .int n])) V2 (.tup [.ref V1])) := fun b o q => upd_new nV2 (upd_new nV1 q)
    have hV1 : upd (upd H21 V1 (.tup [.str g0.1, .int n])) V2 (.tup [.ref V1]) V1 = some (.tup [.str g0.1, .int n]) := upd_new nV2 upd_same
    have hV2 : upd (upd H21 V1 (.tup [.str g0.1, .int n])) V2 (.tup [.ref V1]) V2 = some (.tup [.ref V1]) := upd_same
    generalize upd (upd H21 V1 (.tup [.str g0.1, .int n])) V2 (.tup [.ref V1]) = H22 at s22 hV1 hV2 ⊢
    have hM22 := hM21.same s22
    have hC22 := hC21.same s22
    have hI22 := hI21.same s22
    have t22 := t21.ext s22
    have htt22 := s22 _ _ htt21
    have hrr2 := s22 _ _ hrr
    have hqq2 := s22 _ _ hqq
    clear hM21 hC21 hI21 t21 htt21 hrr hqq s22 nV1 nV2
    have hone : ∀ z ∈ [(g0.1, n)], PyData.strOk z.1 = true := fun z hz => by rw [List.mem_singleton.mp hz]; exact hgk
    refine q_neD (d := .tuple ([(g0.1, n)].map prd)) (e := .tuple ([(g0.1, n)].map prd)) (.tup (.inl (.inr ⟨oo, hrr2⟩)) (.cons (.tup (sqT hqq2) (.cons (.str _) (.cons (.int _) .nil))) .nil)) (.tup (sqT hV2) (.cons (.tup (sqT hV1) (.cons (.str _) (.cons (.int _) .nil))) .nil)) (pairs_sh hone) (pairs_sh hone) ?_
    rw [pairs_eq hone]
    clear hrr2 hqq2 hV1 hV2
    obtain ⟨dx1, fx1, hx1, hxno⟩ := hM22.no
    walk_at "my_rd"
    refine q_methK hx1 (hxno _ no_bd.2.2.2.2.2.2.2) fun R hR => ?_
    walk_at "my_rd"
    refine hR _ _ ⟨x1, g, c, t0, M1, g0.1, 1 + am0, rfl, hM22, by rw [hcf20]; exact hC22, List.mem_of_getElem? ht0, hbn20, by omega, fun pp H23 hpp s23 => ?_⟩
    have hI23 := hI22.same s23
    have t23 := t22.ext s23
    clear hR hM22 hC22 hI22 t22 htt22 hx1 hxno s23
    walk_at "my_rd"
    refine q_lstK (Nat.le_of_ble_eq_true rfl) fun V3 nV3 => ?_
    walk_at "my_rd"
    have s24 : Same H23 (upd H23 V3 (.lst [.str g0.1])) := Same.new (Same.refl _) nV3
    have hI24 := hI23.same s24
    have t24 := t23.ext s24
    have hlay : (PyData.list [.str g0.1]).canLay0 = true := by simp [PyData.canLay0, PyData.canLayAll0, hgk]
    have hlsh : SeqAt.shaped (.list [.str g0.1]) = true := by
      show ((PyData.list [.str g0.1]).canLay0 && decide ((PyData.list [.str g0.1]).depth ≤ 64)) = true
      rw [hlay, Bool.true_and, decide_eq_true_eq]
      simp [PyData.depth, PyData.depthAll]
    refine q_neD (d := .list [.str g0.1]) (e := .list [.str g0.1]) (.lst (sqL (s24 _ _ hpp)) (.cons (.str _) .nil)) (.lst (sqL upd_same) (.cons (.str _) .nil)) hlsh hlsh ?_
    rw [PySem.SeqAt.eqv_refl _ hlay]
    generalize upd H23 V3 (.lst [.str g0.1]) = H24 at hI24 t24 ⊢
    clear hI23 t23 s24 hpp nV3
    walk_at "my_rd"
    refine ⟨F, xs, gs, 0, rfl, hI24, by decide, t24, .inl (by decide), fun H25 s25 => ?_⟩
    have t25 := t24.ext s25
    walk_at "my_rd"
    refine q_lstK (Nat.le_of_ble_eq_true rfl) fun V4 nV4 => ?_
    walk_at "my_rd"
    refine ⟨V4, [], [], 3, rfl, ⟨sqL upd_same, PairsAt.nil, by decide, List.nodup_nil, by simp⟩, by decide, t25.ext fun b o q => upd_new nV4 q, .inr rfl, fun H26 _ => ?_⟩
    walk_at "my_rd"
    exact k _
end

theorem fun_of {K : PySem.W.Frag} {x q : Str} {st : Stmt} {kws : List (Str × V)} {f : Addr} {fd : FuncData} (F : FunD K x q (defArgs st) (defBody st) (defScope st) [] kws f fd) : Fun K x q st f fd := by
  obtain ⟨⟨oc, od, dV, kV, doc, pm, an, cdv, ct, osl, rfl, lk, hcd, hD, hK⟩, kp⟩ := F
  rcases hD with ⟨_, rfl⟩ | ⟨e, _⟩
  · exact ⟨⟨oc, od, kV, doc, pm, an, cdv, ct, osl, rfl, lk, hcd⟩, kp⟩
  · exact absurd rfl e
theorem funD_0 {K : PySem.W.Frag} {x q : Str} {params : Arguments} {body : List Stmt} {scope : Scope} {dvs : List V} {kws : List (Str × V)} {f : Addr} {fd : FuncData} (F : FunD K x q params body scope dvs kws f fd) : FunD K x q params body scope dvs [] f fd := by
  obtain ⟨⟨oc, od, dV, kV, doc, pm, an, cdv, ct, osl, e, lk, hcd, hD, hK⟩, kp⟩ := F
  exact ⟨⟨oc, od, dV, kV, doc, pm, an, cdv, ct, osl, e, lk, hcd, hD, .inl rfl⟩, kp⟩
theorem kbn_of {K : PySem.W.Frag} {x q : Str} {params : Arguments} {body : List Stmt} {scope : Scope} {kws : List (Str × V)} {f : Addr} {fd : FuncData} {ps ks : List Str} {n : Nat} (F : FunD K x q params body scope [] kws f fd)
    (h : ∀ (kV doc pm : Value) (an : Option Addr) (cdv ct : Value) (us ws : List Value), us.length = n → ws.length = ks.length → bindArgs (PySem.W.fnOf x q params body scope .none kV doc pm an cdv ct) ⟨us, ks.zip ws⟩ = pure (ps.zip (us ++ ws))) : KBn K fd ps n ks (fun us ws => us ++ ws) (fun vs zs => vs ++ zs) := by
  obtain ⟨⟨oc, od, dV, kV, doc, pm, an, cdv, ct, osl, rfl, lk, hcd, hD, hK⟩, kp⟩ := F
  rcases hD with ⟨_, rfl⟩ | ⟨e, _⟩
  · exact ⟨fun s us ws X l1 l2 => .of_eq (h kV doc pm an cdv ct us ws l1 l2), fun r rz => Vals.append r rz⟩
  · exact absurd rfl e
theorem sqTK_of {K : PySem.W.Frag} {a : Addr} {xs : List V} (h : SqT K (fun _ => none) a xs) : SqTK K a xs := by
  rcases h with (h | ⟨o, h⟩) | h
  · cases h
  · cases h
  · exact h
theorem x0 (P : Params) : (fun K : PySem.W.Frag => (He.Fa.glo "shares").ok K) (KK P) = true := by kernel_rfl
theorem x1 (P : Params) : (fun K : PySem.W.Frag => (He.Fa.glo "next_set").ok K) (KK P) = true := by kernel_rfl
theorem x2 (P : Params) : (fun K : PySem.W.Frag => (He.Fa.glo "is_integer").ok K) (KK P) = true := by kernel_rfl
theorem x3 (P : Params) : (fun K : PySem.W.Frag => (He.Fa.glo "is_at_least").ok K) (KK P) = true := by kernel_rfl
theorem x4 (P : Params) : (fun K : PySem.W.Frag => (He.Fa.glo "is_text").ok K) (KK P) = true := by kernel_rfl
theorem x5 (P : Params) : (fun K : PySem.W.Frag => (He.Fa.glo "is_short_text").ok K) (KK P) = true := by kernel_rfl
theorem x6 (P : Params) : (fun K : PySem.W.Frag => (He.Fa.glo "is_account").ok K) (KK P) = true := by kernel_rfl
theorem x7 (P : Params) : (fun K : PySem.W.Frag => (He.Fa.glo "is_side").ok K) (KK P) = true := by kernel_rfl
theorem x8 (P : Params) : (fun K : PySem.W.Frag => (He.Fa.glo "is_set").ok K) (KK P) = true := by kernel_rfl
theorem x9 (P : Params) : (fun K : PySem.W.Frag => (He.Fa.glo "is_pair").ok K) (KK P) = true := by kernel_rfl
theorem x10 (P : Params) : (fun K : PySem.W.Frag => (He.Fa.glo "check_list").ok K) (KK P) = true := by kernel_rfl
theorem x11 (P : Params) : (fun K : PySem.W.Frag => (He.Fa.glo "check_least").ok K) (KK P) = true := by kernel_rfl
theorem x12 (P : Params) : (fun K : PySem.W.Frag => (He.Fa.glo "check_token_row").ok K) (KK P) = true := by kernel_rfl
theorem x13 (P : Params) : (fun K : PySem.W.Frag => (He.Fa.glo "check_balance_row").ok K) (KK P) = true := by kernel_rfl
theorem x14 (P : Params) : (fun K : PySem.W.Frag => (He.Fa.glo "check_amount").ok K) (KK P) = true := by kernel_rfl
theorem x15 (P : Params) : (fun K : PySem.W.Frag => (He.Fa.glo "do_bond").ok K) (KK P) = true := by kernel_rfl
theorem x16 (P : Params) : (fun K : PySem.W.Frag => (He.Fa.glo "word_of").ok K) (KK P) = true := by kernel_rfl
theorem x17 (P : Params) : (fun K : PySem.W.Frag => (He.Fa.glo "outcome").ok K) (KK P) = true := by kernel_rfl
theorem x18 (P : Params) : (fun K : PySem.W.Frag => (He.Fa.glo "copied").ok K) (KK P) = true := by kernel_rfl
theorem x19 (P : Params) : (fun K : PySem.W.Frag => (He.Fa.glo "held").ok K) (KK P) = true := by kernel_rfl
theorem x20 (P : Params) : (fun K : PySem.W.Frag => (He.Fa.glo "put").ok K) (KK P) = true := by kernel_rfl
theorem x21 (P : Params) : (fun K : PySem.W.Frag => (He.Fa.glo "draw").ok K) (KK P) = true := by kernel_rfl
theorem x22 (P : Params) : (fun K : PySem.W.Frag => (He.Fa.glo "opening_state").ok K) (KK P) = true := by kernel_rfl
theorem x23 (P : Params) : (fun K : PySem.W.Frag => (He.Fa.glo "_law_pot").ok K) (KK P) = true := by kernel_rfl
theorem x24 (P : Params) : (fun K : PySem.W.Frag => (He.Fa.glo "_law_next").ok K) (KK P) = true := by kernel_rfl
theorem x25 (P : Params) : (fun K : PySem.W.Frag => (He.Fa.glo "_law_set").ok K) (KK P) = true := by kernel_rfl
theorem x26 (P : Params) : (fun K : PySem.W.Frag => (He.Fa.glo "_law_config").ok K) (KK P) = true := by kernel_rfl
theorem x27 (P : Params) : (fun K : PySem.W.Frag => (He.Fa.glo "_law_made").ok K) (KK P) = true := by kernel_rfl
theorem x28 (P : Params) : (fun K : PySem.W.Frag => (He.Fa.glo "_law_refused").ok K) (KK P) = true := by kernel_rfl
theorem x29 (P : Params) : (fun K : PySem.W.Frag => (He.Fa.glo "_law_due").ok K) (KK P) = true := by kernel_rfl
theorem x30 (P : Params) : (fun K : PySem.W.Frag => (He.Fa.glo "law").ok K) (KK P) = true := by kernel_rfl
theorem x31 (P : Params) : (fun K : PySem.W.Frag => (He.Fa.glo "BridgeError").ok K) (KK P) = true := by kernel_rfl
theorem x32 (P : Params) : (fun K : PySem.W.Frag => decide (PySem.W.excIn K (He.ga K "BridgeError") [.type "ValueError", .type "Exception", .type "BaseException", .type "object"] "ValueError.__new__" = true)) (KK P) = true := by kernel_rfl
theorem x33 (P : Params) : (fun K : PySem.W.Frag => decide (PySem.W.keepIn K (.ref (He.ga K "BridgeError")) = true)) (KK P) = true := by kernel_rfl
theorem x34 (P : Params) : (fun K : PySem.W.Frag => decide (PySem.W.subIn K (.ref (He.ga K "BridgeError")) (.type "BaseException") = some true)) (KK P) = true := by kernel_rfl
theorem x35 (P : Params) : (fun K : PySem.W.Frag => decide (PySem.W.typeIn K (.ref (He.ga K "BridgeError")) = some (.type "type"))) (KK P) = true := by kernel_rfl
theorem x36 (P : Params) : (fun K : PySem.W.Frag => decide (PySem.W.isClsIn K (He.ga K "BridgeError") = true)) (KK P) = true := by kernel_rfl
theorem x37 (P : Params) : (fun K : PySem.W.Frag => decide (PySem.W.subIn K (.ref (He.ga K "BridgeError")) (.ref (He.ga K "BridgeError")) = some true)) (KK P) = true := by kernel_rfl
theorem x38 (P : Params) : (fun K : PySem.W.Frag => decide (PySem.W.hasDictIn K (He.ga K "BridgeError") = true)) (KK P) = true := by kernel_rfl
theorem x39 (P : Params) : (fun K : PySem.W.Frag => (He.Fa.glo "InvalidArgument").ok K) (KK P) = true := by kernel_rfl
theorem x40 (P : Params) : (fun K : PySem.W.Frag => decide (PySem.W.excIn K (He.ga K "InvalidArgument") [.type "ValueError", .type "Exception", .type "BaseException", .type "object"] "ValueError.__new__" = true)) (KK P) = true := by kernel_rfl
theorem x41 (P : Params) : (fun K : PySem.W.Frag => decide (PySem.W.keepIn K (.ref (He.ga K "InvalidArgument")) = true)) (KK P) = true := by kernel_rfl
theorem x42 (P : Params) : (fun K : PySem.W.Frag => decide (PySem.W.subIn K (.ref (He.ga K "InvalidArgument")) (.type "BaseException") = some true)) (KK P) = true := by kernel_rfl
theorem x43 (P : Params) : (fun K : PySem.W.Frag => decide (PySem.W.typeIn K (.ref (He.ga K "InvalidArgument")) = some (.type "type"))) (KK P) = true := by kernel_rfl
theorem x44 (P : Params) : (fun K : PySem.W.Frag => decide (PySem.W.isClsIn K (He.ga K "InvalidArgument") = true)) (KK P) = true := by kernel_rfl
theorem x45 (P : Params) : (fun K : PySem.W.Frag => decide (PySem.W.subIn K (.ref (He.ga K "InvalidArgument")) (.ref (He.ga K "InvalidArgument")) = some true)) (KK P) = true := by kernel_rfl
theorem x46 (P : Params) : (fun K : PySem.W.Frag => decide (PySem.W.findIn K (.ref (He.ga K "InvalidArgument")) "__getattribute__" = some (some (.builtin "BaseException.__getattribute__")))) (KK P) = true := by kernel_rfl
theorem x47 (P : Params) : (fun K : PySem.W.Frag => decide (PySem.W.findIn K (.ref (He.ga K "InvalidArgument")) "__getattr__" = some none)) (KK P) = true := by kernel_rfl
theorem x48 (P : Params) : (fun K : PySem.W.Frag => decide (PySem.W.hasDictIn K (He.ga K "InvalidArgument") = true)) (KK P) = true := by kernel_rfl
theorem x49 (P : Params) : (fun K : PySem.W.Frag => decide (PySem.W.findIn K (.ref (He.ga K "InvalidArgument")) "__class__" = some (some (.builtin "object.__class__")))) (KK P) = true := by kernel_rfl
theorem x50 (P : Params) : (fun K : PySem.W.Frag => decide (PySem.W.mroIn K (He.ga K "InvalidArgument") (.type "object") = some true)) (KK P) = true := by kernel_rfl
theorem x51 (P : Params) : (fun K : PySem.W.Frag => decide (PySem.W.specialIn K (.builtin "object.__class__") "__get__" = some (some (.builtin "getset_descriptor.__get__")))) (KK P) = true := by kernel_rfl
theorem x52 (P : Params) : (fun K : PySem.W.Frag => decide (PySem.W.takesIn K (.builtin "object.__class__") = some true)) (KK P) = true := by kernel_rfl
theorem x53 (P : Params) : (fun K : PySem.W.Frag => decide (PySem.W.subIn K (.ref (He.ga K "InvalidArgument")) (.ref (He.ga K "BridgeError")) = some true)) (KK P) = true := by kernel_rfl
theorem x54 (P : Params) : (fun K : PySem.W.Frag => (He.Fa.glo "Blocks").ok K) (KK P) = true := by kernel_rfl
theorem x55 (P : Params) : (fun K : PySem.W.Frag => (He.Fa.cls "Blocks").ok K) (KK P) = true := by kernel_rfl
theorem x56 (P : Params) : (fun K : PySem.W.Frag => (He.Fa.glo "Config").ok K) (KK P) = true := by kernel_rfl
theorem x57 (P : Params) : (fun K : PySem.W.Frag => (He.Fa.cls "Config").ok K) (KK P) = true := by kernel_rfl
theorem x58 (P : Params) : (fun K : PySem.W.Frag => (He.Fa.mkr "Config").ok K) (KK P) = true := by kernel_rfl
theorem x59 (P : Params) : (fun K : PySem.W.Frag => (He.Fa.meth "Config" "check_token").ok K) (KK P) = true := by kernel_rfl
theorem x60 (P : Params) : (fun K : PySem.W.Frag => (He.Fa.meth "Config" "home").ok K) (KK P) = true := by kernel_rfl
theorem x61 (P : Params) : (fun K : PySem.W.Frag => (He.Fa.meth "Config" "scale").ok K) (KK P) = true := by kernel_rfl
theorem x62 (P : Params) : (fun K : PySem.W.Frag => (He.Fa.meth "Config" "opening").ok K) (KK P) = true := by kernel_rfl
theorem x63 (P : Params) : (fun K : PySem.W.Frag => (He.Fa.meth "Config" "guards").ok K) (KK P) = true := by kernel_rfl
theorem x64 (P : Params) : (fun K : PySem.W.Frag => (He.Fa.meth "Config" "depth").ok K) (KK P) = true := by kernel_rfl
theorem x65 (P : Params) : (fun K : PySem.W.Frag => (He.Fa.meth "Config" "window").ok K) (KK P) = true := by kernel_rfl
theorem x66 (P : Params) : (fun K : PySem.W.Frag => (He.Fa.meth "Config" "delay").ok K) (KK P) = true := by kernel_rfl
theorem x67 (P : Params) : (fun K : PySem.W.Frag => (He.Fa.meth "Config" "bundle").ok K) (KK P) = true := by kernel_rfl
theorem x68 (P : Params) : (fun K : PySem.W.Frag => (He.Fa.noat "Config" "_tokens").ok K) (KK P) = true := by kernel_rfl
theorem x69 (P : Params) : (fun K : PySem.W.Frag => (He.Fa.noat "Config" "_balances").ok K) (KK P) = true := by kernel_rfl
theorem x70 (P : Params) : (fun K : PySem.W.Frag => (He.Fa.noat "Config" "_guards").ok K) (KK P) = true := by kernel_rfl
theorem x71 (P : Params) : (fun K : PySem.W.Frag => (He.Fa.noat "Config" "_depth").ok K) (KK P) = true := by kernel_rfl
theorem x72 (P : Params) : (fun K : PySem.W.Frag => (He.Fa.noat "Config" "_window").ok K) (KK P) = true := by kernel_rfl
theorem x73 (P : Params) : (fun K : PySem.W.Frag => (He.Fa.noat "Config" "_delay").ok K) (KK P) = true := by kernel_rfl
theorem x74 (P : Params) : (fun K : PySem.W.Frag => (He.Fa.noat "Config" "_bundle").ok K) (KK P) = true := by kernel_rfl
theorem x75 (P : Params) : (fun K : PySem.W.Frag => (He.Fa.glo "Sheet").ok K) (KK P) = true := by kernel_rfl
theorem x76 (P : Params) : (fun K : PySem.W.Frag => (He.Fa.cls "Sheet").ok K) (KK P) = true := by kernel_rfl
theorem x77 (P : Params) : (fun K : PySem.W.Frag => (He.Fa.mkr "Sheet").ok K) (KK P) = true := by kernel_rfl
theorem x78 (P : Params) : (fun K : PySem.W.Frag => (He.Fa.meth "Sheet" "copy").ok K) (KK P) = true := by kernel_rfl
theorem x79 (P : Params) : (fun K : PySem.W.Frag => (He.Fa.meth "Sheet" "balance").ok K) (KK P) = true := by kernel_rfl
theorem x80 (P : Params) : (fun K : PySem.W.Frag => (He.Fa.meth "Sheet" "vault").ok K) (KK P) = true := by kernel_rfl
theorem x81 (P : Params) : (fun K : PySem.W.Frag => (He.Fa.meth "Sheet" "bonded").ok K) (KK P) = true := by kernel_rfl
theorem x82 (P : Params) : (fun K : PySem.W.Frag => (He.Fa.meth "Sheet" "bonders").ok K) (KK P) = true := by kernel_rfl
theorem x83 (P : Params) : (fun K : PySem.W.Frag => (He.Fa.meth "Sheet" "mint").ok K) (KK P) = true := by kernel_rfl
theorem x84 (P : Params) : (fun K : PySem.W.Frag => (He.Fa.meth "Sheet" "bond").ok K) (KK P) = true := by kernel_rfl
theorem x85 (P : Params) : (fun K : PySem.W.Frag => (He.Fa.noat "Sheet" "_config").ok K) (KK P) = true := by kernel_rfl
theorem x86 (P : Params) : (fun K : PySem.W.Frag => (He.Fa.noat "Sheet" "_side").ok K) (KK P) = true := by kernel_rfl
theorem x87 (P : Params) : (fun K : PySem.W.Frag => (He.Fa.noat "Sheet" "_balances").ok K) (KK P) = true := by kernel_rfl
theorem x88 (P : Params) : (fun K : PySem.W.Frag => (He.Fa.noat "Sheet" "_bonds").ok K) (KK P) = true := by kernel_rfl
theorem x89 (P : Params) : (fun K : PySem.W.Frag => (He.Fa.noat "Sheet" "_vaults").ok K) (KK P) = true := by kernel_rfl
theorem x90 (P : Params) : (fun K : PySem.W.Frag => (He.Fa.glo "State").ok K) (KK P) = true := by kernel_rfl
theorem x91 (P : Params) : (fun K : PySem.W.Frag => (He.Fa.cls "State").ok K) (KK P) = true := by kernel_rfl
theorem x92 (P : Params) : (fun K : PySem.W.Frag => (He.Fa.mkr "State").ok K) (KK P) = true := by kernel_rfl
theorem x93 (P : Params) : (fun K : PySem.W.Frag => (He.Fa.meth "State" "copy").ok K) (KK P) = true := by kernel_rfl
theorem x94 (P : Params) : (fun K : PySem.W.Frag => (He.Fa.meth "State" "bonded").ok K) (KK P) = true := by kernel_rfl
theorem x95 (P : Params) : (fun K : PySem.W.Frag => (He.Fa.meth "State" "bonded_guards").ok K) (KK P) = true := by kernel_rfl
theorem x96 (P : Params) : (fun K : PySem.W.Frag => (He.Fa.meth "State" "sheet").ok K) (KK P) = true := by kernel_rfl
theorem x97 (P : Params) : (fun K : PySem.W.Frag => (He.Fa.meth "State" "rise").ok K) (KK P) = true := by kernel_rfl
theorem x98 (P : Params) : (fun K : PySem.W.Frag => (He.Fa.noat "State" "_config").ok K) (KK P) = true := by kernel_rfl
theorem x99 (P : Params) : (fun K : PySem.W.Frag => (He.Fa.noat "State" "_side").ok K) (KK P) = true := by kernel_rfl
theorem x100 (P : Params) : (fun K : PySem.W.Frag => (He.Fa.noat "State" "_sheet").ok K) (KK P) = true := by kernel_rfl
theorem x101 (P : Params) : (fun K : PySem.W.Frag => (He.Fa.noat "State" "_height").ok K) (KK P) = true := by kernel_rfl
theorem x102 (P : Params) : (fun K : PySem.W.Frag => (He.Fa.noat "State" "_sets").ok K) (KK P) = true := by kernel_rfl
theorem x103 (P : Params) : (fun K : PySem.W.Frag => (He.Fa.noat "State" "_stops").ok K) (KK P) = true := by kernel_rfl
theorem x104 (P : Params) : (fun K : PySem.W.Frag => (He.Fa.noat "State" "_stopped").ok K) (KK P) = true := by kernel_rfl
theorem x105 (P : Params) : (fun K : PySem.W.Frag => (He.Fa.noat "State" "_transfers").ok K) (KK P) = true := by kernel_rfl
theorem x106 (P : Params) : (fun K : PySem.W.Frag => (He.Fa.noat "State" "_returned").ok K) (KK P) = true := by kernel_rfl
theorem x107 (P : Params) : (fun K : PySem.W.Frag => (He.Fa.noat "State" "_taken").ok K) (KK P) = true := by kernel_rfl
theorem x108 (P : Params) : (fun K : PySem.W.Frag => (He.Fa.noat "State" "_waiting").ok K) (KK P) = true := by kernel_rfl
theorem x109 (P : Params) : (fun K : PySem.W.Frag => (He.Fa.noat "State" "_deliveries").ok K) (KK P) = true := by kernel_rfl
theorem x110 (P : Params) : (fun K : PySem.W.Frag => (He.Fa.glo "Chain").ok K) (KK P) = true := by kernel_rfl
theorem x111 (P : Params) : (fun K : PySem.W.Frag => (He.Fa.cls "Chain").ok K) (KK P) = true := by kernel_rfl
theorem x112 (P : Params) : (fun K : PySem.W.Frag => (He.Fa.glo "Notary").ok K) (KK P) = true := by kernel_rfl
theorem x113 (P : Params) : (fun K : PySem.W.Frag => (He.Fa.cls "Notary").ok K) (KK P) = true := by kernel_rfl
theorem x114 (P : Params) : (fun K : PySem.W.Frag => (He.Fa.mkr "Notary").ok K) (KK P) = true := by kernel_rfl
theorem x115 (P : Params) : (fun K : PySem.W.Frag => (He.Fa.noat "Notary" "_table").ok K) (KK P) = true := by kernel_rfl
theorem x116 (P : Params) : (fun K : PySem.W.Frag => (He.Fa.noat "Notary" "_numbers").ok K) (KK P) = true := by kernel_rfl
theorem x117 (P : Params) : (fun K : PySem.W.Frag => (He.Fa.int "ACCOUNT_LENGTH" 20).ok K) (KK P) = true := by kernel_rfl
theorem x118 (P : Params) : (fun K : PySem.W.Frag => (He.Fa.int "BARRED_CODE" 37).ok K) (KK P) = true := by kernel_rfl
theorem x119 (P : Params) : (fun K : PySem.W.Frag => (He.Fa.int "FIRST_CODE" 32).ok K) (KK P) = true := by kernel_rfl
theorem x120 (P : Params) : (fun K : PySem.W.Frag => (He.Fa.int "LAST_CODE" 126).ok K) (KK P) = true := by kernel_rfl
theorem x121 (P : Params) : (fun K : PySem.W.Frag => (He.Fa.int "MOST_IN_BUNDLE" 8).ok K) (KK P) = true := by kernel_rfl
theorem x122 (P : Params) : (fun K : PySem.W.Frag => (He.Fa.glo "ORDERS").ok K) (KK P) = true := by kernel_rfl
theorem x123 (P : Params) : (fun K : PySem.W.Frag => (He.Fa.glo "PARTS").ok K) (KK P) = true := by kernel_rfl
theorem x124 (P : Params) : (fun K : PySem.W.Frag => (He.Fa.glo "SIDES").ok K) (KK P) = true := by kernel_rfl
theorem x125 (P : Params) : (fun K : PySem.W.Frag => He.tupB K "SIDES" [.str "west", .str "east"]) (KK P) = true := by kernel_rfl
theorem x126 (P : Params) : (fun K : PySem.W.Frag => (He.Fa.int "TOKEN_LENGTH" 12).ok K) (KK P) = true := by kernel_rfl
theorem x127 (P : Params) : (fun K : PySem.W.Frag => (He.Fa.free "abs").ok K) (KK P) = true := by kernel_rfl
theorem x128 (P : Params) : (fun K : PySem.W.Frag => (He.Fa.free "any").ok K) (KK P) = true := by kernel_rfl
theorem x129 (P : Params) : (fun K : PySem.W.Frag => (He.Fa.free "bool").ok K) (KK P) = true := by kernel_rfl
theorem x130 (P : Params) : (fun K : PySem.W.Frag => (He.Fa.free "dict").ok K) (KK P) = true := by kernel_rfl
theorem x131 (P : Params) : (fun K : PySem.W.Frag => (He.Fa.free "int").ok K) (KK P) = true := by kernel_rfl
theorem x132 (P : Params) : (fun K : PySem.W.Frag => (He.Fa.free "isinstance").ok K) (KK P) = true := by kernel_rfl
theorem x133 (P : Params) : (fun K : PySem.W.Frag => (He.Fa.free "len").ok K) (KK P) = true := by kernel_rfl
theorem x134 (P : Params) : (fun K : PySem.W.Frag => (He.Fa.free "list").ok K) (KK P) = true := by kernel_rfl
theorem x135 (P : Params) : (fun K : PySem.W.Frag => (He.Fa.free "ord").ok K) (KK P) = true := by kernel_rfl
theorem x136 (P : Params) : (fun K : PySem.W.Frag => (He.Fa.free "range").ok K) (KK P) = true := by kernel_rfl
theorem x137 (P : Params) : (fun K : PySem.W.Frag => (He.Fa.free "sorted").ok K) (KK P) = true := by kernel_rfl
theorem x138 (P : Params) : (fun K : PySem.W.Frag => (He.Fa.free "str").ok K) (KK P) = true := by kernel_rfl
theorem x139 (P : Params) : (fun K : PySem.W.Frag => (He.Fa.free "sum").ok K) (KK P) = true := by kernel_rfl
theorem x140 (P : Params) : (fun K : PySem.W.Frag => (He.Fa.free "tuple").ok K) (KK P) = true := by kernel_rfl
theorem D0 (P : Params) : ∃ d : FuncData, (Fun (KK P) "shares" "shares" s_shares (He.fAd (KK P) ("shares", none)) d) ∧ (Binds (KK P) d ["bonds", "seats"] []) := by
  obtain ⟨fd, F⟩ := He.DefD.funD (K := KK P) (d := dd0) (by kernel_rfl) (by kernel_rfl)
  have F : FunD (KK P) "shares" "shares" (defArgs s_shares) (defBody s_shares) (defScope s_shares) [] [] (He.fAd (KK P) ("shares", none)) fd := F
  have F0 : Fun (KK P) "shares" "shares" s_shares (He.fAd (KK P) ("shares", none)) fd := fun_of F
  exact ⟨fd, F0, Fun.binds F0 (ps := ["bonds", "seats"]) fun _ _ _ _ _ _ us hl => match us, hl with | [_, _], _ => rfl⟩
theorem D1 (P : Params) : ∃ d : FuncData, (Fun (KK P) "next_set" "next_set" s_next_set (He.fAd (KK P) ("next_set", none)) d) ∧ (Binds (KK P) d ["state", "token", "seats"] []) := by
  obtain ⟨fd, F⟩ := He.DefD.funD (K := KK P) (d := dd1) (by kernel_rfl) (by kernel_rfl)
  have F : FunD (KK P) "next_set" "next_set" (defArgs s_next_set) (defBody s_next_set) (defScope s_next_set) [] [] (He.fAd (KK P) ("next_set", none)) fd := F
  have F0 : Fun (KK P) "next_set" "next_set" s_next_set (He.fAd (KK P) ("next_set", none)) fd := fun_of F
  exact ⟨fd, F0, Fun.binds F0 (ps := ["state", "token", "seats"]) fun _ _ _ _ _ _ us hl => match us, hl with | [_, _, _], _ => rfl⟩
theorem D2 (P : Params) : ∃ d : FuncData, (Fun (KK P) "is_integer" "is_integer" s_is_integer (He.fAd (KK P) ("is_integer", none)) d) ∧ (Binds (KK P) d ["value"] []) := by
  obtain ⟨fd, F⟩ := He.DefD.funD (K := KK P) (d := dd2) (by kernel_rfl) (by kernel_rfl)
  have F : FunD (KK P) "is_integer" "is_integer" (defArgs s_is_integer) (defBody s_is_integer) (defScope s_is_integer) [] [] (He.fAd (KK P) ("is_integer", none)) fd := F
  have F0 : Fun (KK P) "is_integer" "is_integer" s_is_integer (He.fAd (KK P) ("is_integer", none)) fd := fun_of F
  exact ⟨fd, F0, Fun.binds F0 (ps := ["value"]) fun _ _ _ _ _ _ us hl => match us, hl with | [_], _ => rfl⟩
theorem D3 (P : Params) : ∃ d : FuncData, (Fun (KK P) "is_at_least" "is_at_least" s_is_at_least (He.fAd (KK P) ("is_at_least", none)) d) ∧ (Binds (KK P) d ["value", "least"] []) := by
  obtain ⟨fd, F⟩ := He.DefD.funD (K := KK P) (d := dd3) (by kernel_rfl) (by kernel_rfl)
  have F : FunD (KK P) "is_at_least" "is_at_least" (defArgs s_is_at_least) (defBody s_is_at_least) (defScope s_is_at_least) [] [] (He.fAd (KK P) ("is_at_least", none)) fd := F
  have F0 : Fun (KK P) "is_at_least" "is_at_least" s_is_at_least (He.fAd (KK P) ("is_at_least", none)) fd := fun_of F
  exact ⟨fd, F0, Fun.binds F0 (ps := ["value", "least"]) fun _ _ _ _ _ _ us hl => match us, hl with | [_, _], _ => rfl⟩
theorem D4 (P : Params) : ∃ d : FuncData, (Fun (KK P) "is_text" "is_text" s_is_text (He.fAd (KK P) ("is_text", none)) d) ∧ (Binds (KK P) d ["value"] []) := by
  obtain ⟨fd, F⟩ := He.DefD.funD (K := KK P) (d := dd4) (by kernel_rfl) (by kernel_rfl)
  have F : FunD (KK P) "is_text" "is_text" (defArgs s_is_text) (defBody s_is_text) (defScope s_is_text) [] [] (He.fAd (KK P) ("is_text", none)) fd := F
  have F0 : Fun (KK P) "is_text" "is_text" s_is_text (He.fAd (KK P) ("is_text", none)) fd := fun_of F
  exact ⟨fd, F0, Fun.binds F0 (ps := ["value"]) fun _ _ _ _ _ _ us hl => match us, hl with | [_], _ => rfl⟩
theorem D5 (P : Params) : ∃ d : FuncData, (Fun (KK P) "is_short_text" "is_short_text" s_is_short_text (He.fAd (KK P) ("is_short_text", none)) d) ∧ (Binds (KK P) d ["value", "most"] []) := by
  obtain ⟨fd, F⟩ := He.DefD.funD (K := KK P) (d := dd5) (by kernel_rfl) (by kernel_rfl)
  have F : FunD (KK P) "is_short_text" "is_short_text" (defArgs s_is_short_text) (defBody s_is_short_text) (defScope s_is_short_text) [] [] (He.fAd (KK P) ("is_short_text", none)) fd := F
  have F0 : Fun (KK P) "is_short_text" "is_short_text" s_is_short_text (He.fAd (KK P) ("is_short_text", none)) fd := fun_of F
  exact ⟨fd, F0, Fun.binds F0 (ps := ["value", "most"]) fun _ _ _ _ _ _ us hl => match us, hl with | [_, _], _ => rfl⟩
theorem D6 (P : Params) : ∃ d : FuncData, (Fun (KK P) "is_account" "is_account" s_is_account (He.fAd (KK P) ("is_account", none)) d) ∧ (Binds (KK P) d ["value"] []) := by
  obtain ⟨fd, F⟩ := He.DefD.funD (K := KK P) (d := dd6) (by kernel_rfl) (by kernel_rfl)
  have F : FunD (KK P) "is_account" "is_account" (defArgs s_is_account) (defBody s_is_account) (defScope s_is_account) [] [] (He.fAd (KK P) ("is_account", none)) fd := F
  have F0 : Fun (KK P) "is_account" "is_account" s_is_account (He.fAd (KK P) ("is_account", none)) fd := fun_of F
  exact ⟨fd, F0, Fun.binds F0 (ps := ["value"]) fun _ _ _ _ _ _ us hl => match us, hl with | [_], _ => rfl⟩
theorem D7 (P : Params) : ∃ d : FuncData, (Fun (KK P) "is_side" "is_side" s_is_side (He.fAd (KK P) ("is_side", none)) d) ∧ (Binds (KK P) d ["value"] []) := by
  obtain ⟨fd, F⟩ := He.DefD.funD (K := KK P) (d := dd7) (by kernel_rfl) (by kernel_rfl)
  have F : FunD (KK P) "is_side" "is_side" (defArgs s_is_side) (defBody s_is_side) (defScope s_is_side) [] [] (He.fAd (KK P) ("is_side", none)) fd := F
  have F0 : Fun (KK P) "is_side" "is_side" s_is_side (He.fAd (KK P) ("is_side", none)) fd := fun_of F
  exact ⟨fd, F0, Fun.binds F0 (ps := ["value"]) fun _ _ _ _ _ _ us hl => match us, hl with | [_], _ => rfl⟩
theorem D8 (P : Params) : ∃ d : FuncData, (Fun (KK P) "is_set" "is_set" s_is_set (He.fAd (KK P) ("is_set", none)) d) ∧ (Binds (KK P) d ["value"] []) := by
  obtain ⟨fd, F⟩ := He.DefD.funD (K := KK P) (d := dd8) (by kernel_rfl) (by kernel_rfl)
  have F : FunD (KK P) "is_set" "is_set" (defArgs s_is_set) (defBody s_is_set) (defScope s_is_set) [] [] (He.fAd (KK P) ("is_set", none)) fd := F
  have F0 : Fun (KK P) "is_set" "is_set" s_is_set (He.fAd (KK P) ("is_set", none)) fd := fun_of F
  exact ⟨fd, F0, Fun.binds F0 (ps := ["value"]) fun _ _ _ _ _ _ us hl => match us, hl with | [_], _ => rfl⟩
theorem D9 (P : Params) : ∃ d : FuncData, (Fun (KK P) "is_pair" "is_pair" s_is_pair (He.fAd (KK P) ("is_pair", none)) d) ∧ (Binds (KK P) d ["part"] []) := by
  obtain ⟨fd, F⟩ := He.DefD.funD (K := KK P) (d := dd9) (by kernel_rfl) (by kernel_rfl)
  have F : FunD (KK P) "is_pair" "is_pair" (defArgs s_is_pair) (defBody s_is_pair) (defScope s_is_pair) [] [] (He.fAd (KK P) ("is_pair", none)) fd := F
  have F0 : Fun (KK P) "is_pair" "is_pair" s_is_pair (He.fAd (KK P) ("is_pair", none)) fd := fun_of F
  exact ⟨fd, F0, Fun.binds F0 (ps := ["part"]) fun _ _ _ _ _ _ us hl => match us, hl with | [_], _ => rfl⟩
theorem D10 (P : Params) : ∃ d : FuncData, (Fun (KK P) "__init__" "Config.__init__" s_Config_init (He.fAd (KK P) ("Config", some "__init__")) d) ∧ (KBn (KK P) d ["self", "tokens", "balances", "guards", "depth", "window", "delay", "bundle"] 1 ["tokens", "balances", "guards", "depth", "window", "delay", "bundle"] (fun us ws => us ++ ws) (fun vs zs => vs ++ zs)) := by
  obtain ⟨fd, F⟩ := He.DefD.funD (K := KK P) (d := dd10) (by kernel_rfl) (by kernel_rfl)
  have F : FunD (KK P) "__init__" "Config.__init__" (defArgs s_Config_init) (defBody s_Config_init) (defScope s_Config_init) [] [("depth", .int 2), ("window", .int 4), ("delay", .int 2), ("bundle", .int 4)] (He.fAd (KK P) ("Config", some "__init__")) fd := F
  have F0 : Fun (KK P) "__init__" "Config.__init__" s_Config_init (He.fAd (KK P) ("Config", some "__init__")) fd := fun_of F
  exact ⟨fd, F0, kbn_of F fun _ _ _ _ _ _ us ws l1 l2 => match us, ws, l1, l2 with | [_], [_, _, _, _, _, _, _], _, _ => rfl⟩
theorem D11 (P : Params) : ∃ d : FuncData, (Fun (KK P) "check_token" "Config.check_token" s_Config_check_token (He.fAd (KK P) ("Config", some "check_token")) d) ∧ (Binds (KK P) d ["self", "token"] []) := by
  obtain ⟨fd, F⟩ := He.DefD.funD (K := KK P) (d := dd11) (by kernel_rfl) (by kernel_rfl)
  have F : FunD (KK P) "check_token" "Config.check_token" (defArgs s_Config_check_token) (defBody s_Config_check_token) (defScope s_Config_check_token) [] [] (He.fAd (KK P) ("Config", some "check_token")) fd := F
  have F0 : Fun (KK P) "check_token" "Config.check_token" s_Config_check_token (He.fAd (KK P) ("Config", some "check_token")) fd := fun_of F
  exact ⟨fd, F0, Fun.binds F0 (ps := ["self", "token"]) fun _ _ _ _ _ _ us hl => match us, hl with | [_, _], _ => rfl⟩
theorem D12 (P : Params) : ∃ d : FuncData, (Fun (KK P) "home" "Config.home" s_Config_home (He.fAd (KK P) ("Config", some "home")) d) ∧ (Binds (KK P) d ["self", "token"] []) := by
  obtain ⟨fd, F⟩ := He.DefD.funD (K := KK P) (d := dd12) (by kernel_rfl) (by kernel_rfl)
  have F : FunD (KK P) "home" "Config.home" (defArgs s_Config_home) (defBody s_Config_home) (defScope s_Config_home) [] [] (He.fAd (KK P) ("Config", some "home")) fd := F
  have F0 : Fun (KK P) "home" "Config.home" s_Config_home (He.fAd (KK P) ("Config", some "home")) fd := fun_of F
  exact ⟨fd, F0, Fun.binds F0 (ps := ["self", "token"]) fun _ _ _ _ _ _ us hl => match us, hl with | [_, _], _ => rfl⟩
theorem D13 (P : Params) : ∃ d : FuncData, (Fun (KK P) "scale" "Config.scale" s_Config_scale (He.fAd (KK P) ("Config", some "scale")) d) ∧ (Binds (KK P) d ["self", "token"] []) := by
  obtain ⟨fd, F⟩ := He.DefD.funD (K := KK P) (d := dd13) (by kernel_rfl) (by kernel_rfl)
  have F : FunD (KK P) "scale" "Config.scale" (defArgs s_Config_scale) (defBody s_Config_scale) (defScope s_Config_scale) [] [] (He.fAd (KK P) ("Config", some "scale")) fd := F
  have F0 : Fun (KK P) "scale" "Config.scale" s_Config_scale (He.fAd (KK P) ("Config", some "scale")) fd := fun_of F
  exact ⟨fd, F0, Fun.binds F0 (ps := ["self", "token"]) fun _ _ _ _ _ _ us hl => match us, hl with | [_, _], _ => rfl⟩
theorem D14 (P : Params) : ∃ d : FuncData, (Fun (KK P) "opening" "Config.opening" s_Config_opening (He.fAd (KK P) ("Config", some "opening")) d) ∧ (Binds (KK P) d ["self", "side"] []) := by
  obtain ⟨fd, F⟩ := He.DefD.funD (K := KK P) (d := dd14) (by kernel_rfl) (by kernel_rfl)
  have F : FunD (KK P) "opening" "Config.opening" (defArgs s_Config_opening) (defBody s_Config_opening) (defScope s_Config_opening) [] [] (He.fAd (KK P) ("Config", some "opening")) fd := F
  have F0 : Fun (KK P) "opening" "Config.opening" s_Config_opening (He.fAd (KK P) ("Config", some "opening")) fd := fun_of F
  exact ⟨fd, F0, Fun.binds F0 (ps := ["self", "side"]) fun _ _ _ _ _ _ us hl => match us, hl with | [_, _], _ => rfl⟩
theorem D15 (P : Params) : ∃ d : FuncData, (Fun (KK P) "guards" "Config.guards" s_Config_guards (He.fAd (KK P) ("Config", some "guards")) d) ∧ (Binds (KK P) d ["self"] []) := by
  obtain ⟨fd, F⟩ := He.DefD.funD (K := KK P) (d := dd15) (by kernel_rfl) (by kernel_rfl)
  have F : FunD (KK P) "guards" "Config.guards" (defArgs s_Config_guards) (defBody s_Config_guards) (defScope s_Config_guards) [] [] (He.fAd (KK P) ("Config", some "guards")) fd := F
  have F0 : Fun (KK P) "guards" "Config.guards" s_Config_guards (He.fAd (KK P) ("Config", some "guards")) fd := fun_of F
  exact ⟨fd, F0, Fun.binds F0 (ps := ["self"]) fun _ _ _ _ _ _ us hl => match us, hl with | [_], _ => rfl⟩
theorem D16 (P : Params) : ∃ d : FuncData, (Fun (KK P) "depth" "Config.depth" s_Config_depth (He.fAd (KK P) ("Config", some "depth")) d) ∧ (Binds (KK P) d ["self"] []) := by
  obtain ⟨fd, F⟩ := He.DefD.funD (K := KK P) (d := dd16) (by kernel_rfl) (by kernel_rfl)
  have F : FunD (KK P) "depth" "Config.depth" (defArgs s_Config_depth) (defBody s_Config_depth) (defScope s_Config_depth) [] [] (He.fAd (KK P) ("Config", some "depth")) fd := F
  have F0 : Fun (KK P) "depth" "Config.depth" s_Config_depth (He.fAd (KK P) ("Config", some "depth")) fd := fun_of F
  exact ⟨fd, F0, Fun.binds F0 (ps := ["self"]) fun _ _ _ _ _ _ us hl => match us, hl with | [_], _ => rfl⟩
theorem D17 (P : Params) : ∃ d : FuncData, (Fun (KK P) "window" "Config.window" s_Config_window (He.fAd (KK P) ("Config", some "window")) d) ∧ (Binds (KK P) d ["self"] []) := by
  obtain ⟨fd, F⟩ := He.DefD.funD (K := KK P) (d := dd17) (by kernel_rfl) (by kernel_rfl)
  have F : FunD (KK P) "window" "Config.window" (defArgs s_Config_window) (defBody s_Config_window) (defScope s_Config_window) [] [] (He.fAd (KK P) ("Config", some "window")) fd := F
  have F0 : Fun (KK P) "window" "Config.window" s_Config_window (He.fAd (KK P) ("Config", some "window")) fd := fun_of F
  exact ⟨fd, F0, Fun.binds F0 (ps := ["self"]) fun _ _ _ _ _ _ us hl => match us, hl with | [_], _ => rfl⟩
theorem D18 (P : Params) : ∃ d : FuncData, (Fun (KK P) "delay" "Config.delay" s_Config_delay (He.fAd (KK P) ("Config", some "delay")) d) ∧ (Binds (KK P) d ["self"] []) := by
  obtain ⟨fd, F⟩ := He.DefD.funD (K := KK P) (d := dd18) (by kernel_rfl) (by kernel_rfl)
  have F : FunD (KK P) "delay" "Config.delay" (defArgs s_Config_delay) (defBody s_Config_delay) (defScope s_Config_delay) [] [] (He.fAd (KK P) ("Config", some "delay")) fd := F
  have F0 : Fun (KK P) "delay" "Config.delay" s_Config_delay (He.fAd (KK P) ("Config", some "delay")) fd := fun_of F
  exact ⟨fd, F0, Fun.binds F0 (ps := ["self"]) fun _ _ _ _ _ _ us hl => match us, hl with | [_], _ => rfl⟩
theorem D19 (P : Params) : ∃ d : FuncData, (Fun (KK P) "bundle" "Config.bundle" s_Config_bundle (He.fAd (KK P) ("Config", some "bundle")) d) ∧ (Binds (KK P) d ["self"] []) := by
  obtain ⟨fd, F⟩ := He.DefD.funD (K := KK P) (d := dd19) (by kernel_rfl) (by kernel_rfl)
  have F : FunD (KK P) "bundle" "Config.bundle" (defArgs s_Config_bundle) (defBody s_Config_bundle) (defScope s_Config_bundle) [] [] (He.fAd (KK P) ("Config", some "bundle")) fd := F
  have F0 : Fun (KK P) "bundle" "Config.bundle" s_Config_bundle (He.fAd (KK P) ("Config", some "bundle")) fd := fun_of F
  exact ⟨fd, F0, Fun.binds F0 (ps := ["self"]) fun _ _ _ _ _ _ us hl => match us, hl with | [_], _ => rfl⟩
theorem D20 (P : Params) : ∃ d : FuncData, (Fun (KK P) "check_list" "check_list" s_check_list (He.fAd (KK P) ("check_list", none)) d) ∧ (Binds (KK P) d ["name", "value"] []) := by
  obtain ⟨fd, F⟩ := He.DefD.funD (K := KK P) (d := dd20) (by kernel_rfl) (by kernel_rfl)
  have F : FunD (KK P) "check_list" "check_list" (defArgs s_check_list) (defBody s_check_list) (defScope s_check_list) [] [] (He.fAd (KK P) ("check_list", none)) fd := F
  have F0 : Fun (KK P) "check_list" "check_list" s_check_list (He.fAd (KK P) ("check_list", none)) fd := fun_of F
  exact ⟨fd, F0, Fun.binds F0 (ps := ["name", "value"]) fun _ _ _ _ _ _ us hl => match us, hl with | [_, _], _ => rfl⟩
theorem D21 (P : Params) : ∃ d : FuncData, (Fun (KK P) "check_least" "check_least" s_check_least (He.fAd (KK P) ("check_least", none)) d) ∧ (Binds (KK P) d ["name", "value", "least"] []) := by
  obtain ⟨fd, F⟩ := He.DefD.funD (K := KK P) (d := dd21) (by kernel_rfl) (by kernel_rfl)
  have F : FunD (KK P) "check_least" "check_least" (defArgs s_check_least) (defBody s_check_least) (defScope s_check_least) [] [] (He.fAd (KK P) ("check_least", none)) fd := F
  have F0 : Fun (KK P) "check_least" "check_least" s_check_least (He.fAd (KK P) ("check_least", none)) fd := fun_of F
  exact ⟨fd, F0, Fun.binds F0 (ps := ["name", "value", "least"]) fun _ _ _ _ _ _ us hl => match us, hl with | [_, _, _], _ => rfl⟩
theorem D22 (P : Params) : ∃ d : FuncData, (Fun (KK P) "check_token_row" "check_token_row" s_check_token_row (He.fAd (KK P) ("check_token_row", none)) d) ∧ (Binds (KK P) d ["row"] []) := by
  obtain ⟨fd, F⟩ := He.DefD.funD (K := KK P) (d := dd22) (by kernel_rfl) (by kernel_rfl)
  have F : FunD (KK P) "check_token_row" "check_token_row" (defArgs s_check_token_row) (defBody s_check_token_row) (defScope s_check_token_row) [] [] (He.fAd (KK P) ("check_token_row", none)) fd := F
  have F0 : Fun (KK P) "check_token_row" "check_token_row" s_check_token_row (He.fAd (KK P) ("check_token_row", none)) fd := fun_of F
  exact ⟨fd, F0, Fun.binds F0 (ps := ["row"]) fun _ _ _ _ _ _ us hl => match us, hl with | [_], _ => rfl⟩
theorem D23 (P : Params) : ∃ d : FuncData, (Fun (KK P) "check_balance_row" "check_balance_row" s_check_balance_row (He.fAd (KK P) ("check_balance_row", none)) d) ∧ (Binds (KK P) d ["row", "tokens"] []) := by
  obtain ⟨fd, F⟩ := He.DefD.funD (K := KK P) (d := dd23) (by kernel_rfl) (by kernel_rfl)
  have F : FunD (KK P) "check_balance_row" "check_balance_row" (defArgs s_check_balance_row) (defBody s_check_balance_row) (defScope s_check_balance_row) [] [] (He.fAd (KK P) ("check_balance_row", none)) fd := F
  have F0 : Fun (KK P) "check_balance_row" "check_balance_row" s_check_balance_row (He.fAd (KK P) ("check_balance_row", none)) fd := fun_of F
  exact ⟨fd, F0, Fun.binds F0 (ps := ["row", "tokens"]) fun _ _ _ _ _ _ us hl => match us, hl with | [_, _], _ => rfl⟩
theorem D24 (P : Params) : ∃ d : FuncData, (Fun (KK P) "check_amount" "check_amount" s_check_amount (He.fAd (KK P) ("check_amount", none)) d) ∧ (Binds (KK P) d ["config", "token", "amount"] []) := by
  obtain ⟨fd, F⟩ := He.DefD.funD (K := KK P) (d := dd24) (by kernel_rfl) (by kernel_rfl)
  have F : FunD (KK P) "check_amount" "check_amount" (defArgs s_check_amount) (defBody s_check_amount) (defScope s_check_amount) [] [] (He.fAd (KK P) ("check_amount", none)) fd := F
  have F0 : Fun (KK P) "check_amount" "check_amount" s_check_amount (He.fAd (KK P) ("check_amount", none)) fd := fun_of F
  exact ⟨fd, F0, Fun.binds F0 (ps := ["config", "token", "amount"]) fun _ _ _ _ _ _ us hl => match us, hl with | [_, _, _], _ => rfl⟩
theorem D25 (P : Params) : ∃ d : FuncData, (Fun (KK P) "do_bond" "do_bond" s_do_bond (He.fAd (KK P) ("do_bond", none)) d) ∧ (Binds (KK P) d ["config", "notary", "state", "order"] []) := by
  obtain ⟨fd, F⟩ := He.DefD.funD (K := KK P) (d := dd25) (by kernel_rfl) (by kernel_rfl)
  have F : FunD (KK P) "do_bond" "do_bond" (defArgs s_do_bond) (defBody s_do_bond) (defScope s_do_bond) [] [] (He.fAd (KK P) ("do_bond", none)) fd := F
  have F0 : Fun (KK P) "do_bond" "do_bond" s_do_bond (He.fAd (KK P) ("do_bond", none)) fd := fun_of F
  exact ⟨fd, F0, Fun.binds F0 (ps := ["config", "notary", "state", "order"]) fun _ _ _ _ _ _ us hl => match us, hl with | [_, _, _, _], _ => rfl⟩
theorem D26 (P : Params) : ∃ d : FuncData, (Fun (KK P) "word_of" "word_of" s_word_of (He.fAd (KK P) ("word_of", none)) d) ∧ (Binds (KK P) d ["order"] []) := by
  obtain ⟨fd, F⟩ := He.DefD.funD (K := KK P) (d := dd26) (by kernel_rfl) (by kernel_rfl)
  have F : FunD (KK P) "word_of" "word_of" (defArgs s_word_of) (defBody s_word_of) (defScope s_word_of) [] [] (He.fAd (KK P) ("word_of", none)) fd := F
  have F0 : Fun (KK P) "word_of" "word_of" s_word_of (He.fAd (KK P) ("word_of", none)) fd := fun_of F
  exact ⟨fd, F0, Fun.binds F0 (ps := ["order"]) fun _ _ _ _ _ _ us hl => match us, hl with | [_], _ => rfl⟩
theorem D27 (P : Params) : ∃ d : FuncData, (Fun (KK P) "outcome" "outcome" s_outcome (He.fAd (KK P) ("outcome", none)) d) ∧ (Binds (KK P) d ["config", "notary", "state", "order"] []) := by
  obtain ⟨fd, F⟩ := He.DefD.funD (K := KK P) (d := dd27) (by kernel_rfl) (by kernel_rfl)
  have F : FunD (KK P) "outcome" "outcome" (defArgs s_outcome) (defBody s_outcome) (defScope s_outcome) [] [] (He.fAd (KK P) ("outcome", none)) fd := F
  have F0 : Fun (KK P) "outcome" "outcome" s_outcome (He.fAd (KK P) ("outcome", none)) fd := fun_of F
  exact ⟨fd, F0, Fun.binds F0 (ps := ["config", "notary", "state", "order"]) fun _ _ _ _ _ _ us hl => match us, hl with | [_, _, _, _], _ => rfl⟩
theorem D28 (P : Params) : ∃ d : FuncData, (Fun (KK P) "__init__" "Sheet.__init__" s_Sheet_init (He.fAd (KK P) ("Sheet", some "__init__")) d) ∧ (Binds (KK P) d ["self", "config", "side"] []) := by
  obtain ⟨fd, F⟩ := He.DefD.funD (K := KK P) (d := dd28) (by kernel_rfl) (by kernel_rfl)
  have F : FunD (KK P) "__init__" "Sheet.__init__" (defArgs s_Sheet_init) (defBody s_Sheet_init) (defScope s_Sheet_init) [] [] (He.fAd (KK P) ("Sheet", some "__init__")) fd := F
  have F0 : Fun (KK P) "__init__" "Sheet.__init__" s_Sheet_init (He.fAd (KK P) ("Sheet", some "__init__")) fd := fun_of F
  exact ⟨fd, F0, Fun.binds F0 (ps := ["self", "config", "side"]) fun _ _ _ _ _ _ us hl => match us, hl with | [_, _, _], _ => rfl⟩
theorem D29 (P : Params) : ∃ d : FuncData, (Fun (KK P) "copy" "Sheet.copy" s_Sheet_copy (He.fAd (KK P) ("Sheet", some "copy")) d) ∧ (Binds (KK P) d ["self"] []) := by
  obtain ⟨fd, F⟩ := He.DefD.funD (K := KK P) (d := dd29) (by kernel_rfl) (by kernel_rfl)
  have F : FunD (KK P) "copy" "Sheet.copy" (defArgs s_Sheet_copy) (defBody s_Sheet_copy) (defScope s_Sheet_copy) [] [] (He.fAd (KK P) ("Sheet", some "copy")) fd := F
  have F0 : Fun (KK P) "copy" "Sheet.copy" s_Sheet_copy (He.fAd (KK P) ("Sheet", some "copy")) fd := fun_of F
  exact ⟨fd, F0, Fun.binds F0 (ps := ["self"]) fun _ _ _ _ _ _ us hl => match us, hl with | [_], _ => rfl⟩
theorem D30 (P : Params) : ∃ d : FuncData, (Fun (KK P) "balance" "Sheet.balance" s_Sheet_balance (He.fAd (KK P) ("Sheet", some "balance")) d) ∧ (Binds (KK P) d ["self", "account", "token"] []) := by
  obtain ⟨fd, F⟩ := He.DefD.funD (K := KK P) (d := dd30) (by kernel_rfl) (by kernel_rfl)
  have F : FunD (KK P) "balance" "Sheet.balance" (defArgs s_Sheet_balance) (defBody s_Sheet_balance) (defScope s_Sheet_balance) [] [] (He.fAd (KK P) ("Sheet", some "balance")) fd := F
  have F0 : Fun (KK P) "balance" "Sheet.balance" s_Sheet_balance (He.fAd (KK P) ("Sheet", some "balance")) fd := fun_of F
  exact ⟨fd, F0, Fun.binds F0 (ps := ["self", "account", "token"]) fun _ _ _ _ _ _ us hl => match us, hl with | [_, _, _], _ => rfl⟩
theorem D31 (P : Params) : ∃ d : FuncData, (Fun (KK P) "vault" "Sheet.vault" s_Sheet_vault (He.fAd (KK P) ("Sheet", some "vault")) d) ∧ (Binds (KK P) d ["self", "token"] []) := by
  obtain ⟨fd, F⟩ := He.DefD.funD (K := KK P) (d := dd31) (by kernel_rfl) (by kernel_rfl)
  have F : FunD (KK P) "vault" "Sheet.vault" (defArgs s_Sheet_vault) (defBody s_Sheet_vault) (defScope s_Sheet_vault) [] [] (He.fAd (KK P) ("Sheet", some "vault")) fd := F
  have F0 : Fun (KK P) "vault" "Sheet.vault" s_Sheet_vault (He.fAd (KK P) ("Sheet", some "vault")) fd := fun_of F
  exact ⟨fd, F0, Fun.binds F0 (ps := ["self", "token"]) fun _ _ _ _ _ _ us hl => match us, hl with | [_, _], _ => rfl⟩
theorem D32 (P : Params) : ∃ d : FuncData, (Fun (KK P) "bonded" "Sheet.bonded" s_Sheet_bonded (He.fAd (KK P) ("Sheet", some "bonded")) d) ∧ (Binds (KK P) d ["self", "guard", "token"] []) := by
  obtain ⟨fd, F⟩ := He.DefD.funD (K := KK P) (d := dd32) (by kernel_rfl) (by kernel_rfl)
  have F : FunD (KK P) "bonded" "Sheet.bonded" (defArgs s_Sheet_bonded) (defBody s_Sheet_bonded) (defScope s_Sheet_bonded) [] [] (He.fAd (KK P) ("Sheet", some "bonded")) fd := F
  have F0 : Fun (KK P) "bonded" "Sheet.bonded" s_Sheet_bonded (He.fAd (KK P) ("Sheet", some "bonded")) fd := fun_of F
  exact ⟨fd, F0, Fun.binds F0 (ps := ["self", "guard", "token"]) fun _ _ _ _ _ _ us hl => match us, hl with | [_, _, _], _ => rfl⟩
theorem D33 (P : Params) : ∃ d : FuncData, (Fun (KK P) "bonders" "Sheet.bonders" s_Sheet_bonders (He.fAd (KK P) ("Sheet", some "bonders")) d) ∧ (Binds (KK P) d ["self", "token"] []) := by
  obtain ⟨fd, F⟩ := He.DefD.funD (K := KK P) (d := dd33) (by kernel_rfl) (by kernel_rfl)
  have F : FunD (KK P) "bonders" "Sheet.bonders" (defArgs s_Sheet_bonders) (defBody s_Sheet_bonders) (defScope s_Sheet_bonders) [] [] (He.fAd (KK P) ("Sheet", some "bonders")) fd := F
  have F0 : Fun (KK P) "bonders" "Sheet.bonders" s_Sheet_bonders (He.fAd (KK P) ("Sheet", some "bonders")) fd := fun_of F
  exact ⟨fd, F0, Fun.binds F0 (ps := ["self", "token"]) fun _ _ _ _ _ _ us hl => match us, hl with | [_, _], _ => rfl⟩
theorem D34 (P : Params) : ∃ d : FuncData, (Fun (KK P) "mint" "Sheet.mint" s_Sheet_mint (He.fAd (KK P) ("Sheet", some "mint")) d) ∧ (Binds (KK P) d ["self", "account", "token", "units"] []) := by
  obtain ⟨fd, F⟩ := He.DefD.funD (K := KK P) (d := dd34) (by kernel_rfl) (by kernel_rfl)
  have F : FunD (KK P) "mint" "Sheet.mint" (defArgs s_Sheet_mint) (defBody s_Sheet_mint) (defScope s_Sheet_mint) [] [] (He.fAd (KK P) ("Sheet", some "mint")) fd := F
  have F0 : Fun (KK P) "mint" "Sheet.mint" s_Sheet_mint (He.fAd (KK P) ("Sheet", some "mint")) fd := fun_of F
  exact ⟨fd, F0, Fun.binds F0 (ps := ["self", "account", "token", "units"]) fun _ _ _ _ _ _ us hl => match us, hl with | [_, _, _, _], _ => rfl⟩
theorem D35 (P : Params) : ∃ d : FuncData, (Fun (KK P) "bond" "Sheet.bond" s_Sheet_bond (He.fAd (KK P) ("Sheet", some "bond")) d) ∧ (Binds (KK P) d ["self", "guard", "token", "amount"] []) := by
  obtain ⟨fd, F⟩ := He.DefD.funD (K := KK P) (d := dd35) (by kernel_rfl) (by kernel_rfl)
  have F : FunD (KK P) "bond" "Sheet.bond" (defArgs s_Sheet_bond) (defBody s_Sheet_bond) (defScope s_Sheet_bond) [] [] (He.fAd (KK P) ("Sheet", some "bond")) fd := F
  have F0 : Fun (KK P) "bond" "Sheet.bond" s_Sheet_bond (He.fAd (KK P) ("Sheet", some "bond")) fd := fun_of F
  exact ⟨fd, F0, Fun.binds F0 (ps := ["self", "guard", "token", "amount"]) fun _ _ _ _ _ _ us hl => match us, hl with | [_, _, _, _], _ => rfl⟩
theorem D36 (P : Params) : ∃ d : FuncData, (Fun (KK P) "copied" "copied" s_copied (He.fAd (KK P) ("copied", none)) d) ∧ (Binds (KK P) d ["table"] []) := by
  obtain ⟨fd, F⟩ := He.DefD.funD (K := KK P) (d := dd36) (by kernel_rfl) (by kernel_rfl)
  have F : FunD (KK P) "copied" "copied" (defArgs s_copied) (defBody s_copied) (defScope s_copied) [] [] (He.fAd (KK P) ("copied", none)) fd := F
  have F0 : Fun (KK P) "copied" "copied" s_copied (He.fAd (KK P) ("copied", none)) fd := fun_of F
  exact ⟨fd, F0, Fun.binds F0 (ps := ["table"]) fun _ _ _ _ _ _ us hl => match us, hl with | [_], _ => rfl⟩
theorem D37 (P : Params) : ∃ d : FuncData, (Fun (KK P) "held" "held" s_held (He.fAd (KK P) ("held", none)) d) ∧ (Binds (KK P) d ["table", "token", "name"] []) := by
  obtain ⟨fd, F⟩ := He.DefD.funD (K := KK P) (d := dd37) (by kernel_rfl) (by kernel_rfl)
  have F : FunD (KK P) "held" "held" (defArgs s_held) (defBody s_held) (defScope s_held) [] [] (He.fAd (KK P) ("held", none)) fd := F
  have F0 : Fun (KK P) "held" "held" s_held (He.fAd (KK P) ("held", none)) fd := fun_of F
  exact ⟨fd, F0, Fun.binds F0 (ps := ["table", "token", "name"]) fun _ _ _ _ _ _ us hl => match us, hl with | [_, _, _], _ => rfl⟩
theorem D38 (P : Params) : ∃ d : FuncData, (Fun (KK P) "put" "put" s_put (He.fAd (KK P) ("put", none)) d) ∧ (Binds (KK P) d ["table", "token", "name", "amount"] []) := by
  obtain ⟨fd, F⟩ := He.DefD.funD (K := KK P) (d := dd38) (by kernel_rfl) (by kernel_rfl)
  have F : FunD (KK P) "put" "put" (defArgs s_put) (defBody s_put) (defScope s_put) [] [] (He.fAd (KK P) ("put", none)) fd := F
  have F0 : Fun (KK P) "put" "put" s_put (He.fAd (KK P) ("put", none)) fd := fun_of F
  exact ⟨fd, F0, Fun.binds F0 (ps := ["table", "token", "name", "amount"]) fun _ _ _ _ _ _ us hl => match us, hl with | [_, _, _, _], _ => rfl⟩
theorem D39 (P : Params) : ∃ d : FuncData, (Fun (KK P) "draw" "draw" s_draw (He.fAd (KK P) ("draw", none)) d) ∧ (Binds (KK P) d ["table", "token", "name", "amount"] []) := by
  obtain ⟨fd, F⟩ := He.DefD.funD (K := KK P) (d := dd39) (by kernel_rfl) (by kernel_rfl)
  have F : FunD (KK P) "draw" "draw" (defArgs s_draw) (defBody s_draw) (defScope s_draw) [] [] (He.fAd (KK P) ("draw", none)) fd := F
  have F0 : Fun (KK P) "draw" "draw" s_draw (He.fAd (KK P) ("draw", none)) fd := fun_of F
  exact ⟨fd, F0, Fun.binds F0 (ps := ["table", "token", "name", "amount"]) fun _ _ _ _ _ _ us hl => match us, hl with | [_, _, _, _], _ => rfl⟩
theorem D40 (P : Params) : ∃ d : FuncData, (Fun (KK P) "__init__" "State.__init__" s_State_init (He.fAd (KK P) ("State", some "__init__")) d) ∧ (Binds (KK P) d ["self", "config", "side", "sheet"] []) := by
  obtain ⟨fd, F⟩ := He.DefD.funD (K := KK P) (d := dd40) (by kernel_rfl) (by kernel_rfl)
  have F : FunD (KK P) "__init__" "State.__init__" (defArgs s_State_init) (defBody s_State_init) (defScope s_State_init) [] [] (He.fAd (KK P) ("State", some "__init__")) fd := F
  have F0 : Fun (KK P) "__init__" "State.__init__" s_State_init (He.fAd (KK P) ("State", some "__init__")) fd := fun_of F
  exact ⟨fd, F0, Fun.binds F0 (ps := ["self", "config", "side", "sheet"]) fun _ _ _ _ _ _ us hl => match us, hl with | [_, _, _, _], _ => rfl⟩
theorem D41 (P : Params) : ∃ d : FuncData, (Fun (KK P) "copy" "State.copy" s_State_copy (He.fAd (KK P) ("State", some "copy")) d) ∧ (Binds (KK P) d ["self"] []) := by
  obtain ⟨fd, F⟩ := He.DefD.funD (K := KK P) (d := dd41) (by kernel_rfl) (by kernel_rfl)
  have F : FunD (KK P) "copy" "State.copy" (defArgs s_State_copy) (defBody s_State_copy) (defScope s_State_copy) [] [] (He.fAd (KK P) ("State", some "copy")) fd := F
  have F0 : Fun (KK P) "copy" "State.copy" s_State_copy (He.fAd (KK P) ("State", some "copy")) fd := fun_of F
  exact ⟨fd, F0, Fun.binds F0 (ps := ["self"]) fun _ _ _ _ _ _ us hl => match us, hl with | [_], _ => rfl⟩
theorem D42 (P : Params) : ∃ d : FuncData, (Fun (KK P) "bonded" "State.bonded" s_State_bonded (He.fAd (KK P) ("State", some "bonded")) d) ∧ (Binds (KK P) d ["self", "guard", "token"] []) := by
  obtain ⟨fd, F⟩ := He.DefD.funD (K := KK P) (d := dd42) (by kernel_rfl) (by kernel_rfl)
  have F : FunD (KK P) "bonded" "State.bonded" (defArgs s_State_bonded) (defBody s_State_bonded) (defScope s_State_bonded) [] [] (He.fAd (KK P) ("State", some "bonded")) fd := F
  have F0 : Fun (KK P) "bonded" "State.bonded" s_State_bonded (He.fAd (KK P) ("State", some "bonded")) fd := fun_of F
  exact ⟨fd, F0, Fun.binds F0 (ps := ["self", "guard", "token"]) fun _ _ _ _ _ _ us hl => match us, hl with | [_, _, _], _ => rfl⟩
theorem D43 (P : Params) : ∃ d : FuncData, (Fun (KK P) "bonded_guards" "State.bonded_guards" s_State_bonded_guards (He.fAd (KK P) ("State", some "bonded_guards")) d) ∧ (Binds (KK P) d ["self", "token"] []) := by
  obtain ⟨fd, F⟩ := He.DefD.funD (K := KK P) (d := dd43) (by kernel_rfl) (by kernel_rfl)
  have F : FunD (KK P) "bonded_guards" "State.bonded_guards" (defArgs s_State_bonded_guards) (defBody s_State_bonded_guards) (defScope s_State_bonded_guards) [] [] (He.fAd (KK P) ("State", some "bonded_guards")) fd := F
  have F0 : Fun (KK P) "bonded_guards" "State.bonded_guards" s_State_bonded_guards (He.fAd (KK P) ("State", some "bonded_guards")) fd := fun_of F
  exact ⟨fd, F0, Fun.binds F0 (ps := ["self", "token"]) fun _ _ _ _ _ _ us hl => match us, hl with | [_, _], _ => rfl⟩
theorem D44 (P : Params) : ∃ d : FuncData, (Fun (KK P) "sheet" "State.sheet" s_State_sheet (He.fAd (KK P) ("State", some "sheet")) d) ∧ (Binds (KK P) d ["self"] []) := by
  obtain ⟨fd, F⟩ := He.DefD.funD (K := KK P) (d := dd44) (by kernel_rfl) (by kernel_rfl)
  have F : FunD (KK P) "sheet" "State.sheet" (defArgs s_State_sheet) (defBody s_State_sheet) (defScope s_State_sheet) [] [] (He.fAd (KK P) ("State", some "sheet")) fd := F
  have F0 : Fun (KK P) "sheet" "State.sheet" s_State_sheet (He.fAd (KK P) ("State", some "sheet")) fd := fun_of F
  exact ⟨fd, F0, Fun.binds F0 (ps := ["self"]) fun _ _ _ _ _ _ us hl => match us, hl with | [_], _ => rfl⟩
theorem D45 (P : Params) : ∃ d : FuncData, (Fun (KK P) "rise" "State.rise" s_State_rise (He.fAd (KK P) ("State", some "rise")) d) ∧ (Binds (KK P) d ["self"] []) := by
  obtain ⟨fd, F⟩ := He.DefD.funD (K := KK P) (d := dd45) (by kernel_rfl) (by kernel_rfl)
  have F : FunD (KK P) "rise" "State.rise" (defArgs s_State_rise) (defBody s_State_rise) (defScope s_State_rise) [] [] (He.fAd (KK P) ("State", some "rise")) fd := F
  have F0 : Fun (KK P) "rise" "State.rise" s_State_rise (He.fAd (KK P) ("State", some "rise")) fd := fun_of F
  exact ⟨fd, F0, Fun.binds F0 (ps := ["self"]) fun _ _ _ _ _ _ us hl => match us, hl with | [_], _ => rfl⟩
theorem D46 (P : Params) : ∃ d : FuncData, (Fun (KK P) "opening_state" "opening_state" s_opening_state (He.fAd (KK P) ("opening_state", none)) d) ∧ (Binds (KK P) d ["config", "side"] []) := by
  obtain ⟨fd, F⟩ := He.DefD.funD (K := KK P) (d := dd46) (by kernel_rfl) (by kernel_rfl)
  have F : FunD (KK P) "opening_state" "opening_state" (defArgs s_opening_state) (defBody s_opening_state) (defScope s_opening_state) [] [] (He.fAd (KK P) ("opening_state", none)) fd := F
  have F0 : Fun (KK P) "opening_state" "opening_state" s_opening_state (He.fAd (KK P) ("opening_state", none)) fd := fun_of F
  exact ⟨fd, F0, Fun.binds F0 (ps := ["config", "side"]) fun _ _ _ _ _ _ us hl => match us, hl with | [_, _], _ => rfl⟩
theorem D47 (P : Params) : ∃ d : FuncData, (Fun (KK P) "__init__" "Notary.__init__" s_Notary_init (He.fAd (KK P) ("Notary", some "__init__")) d) ∧ (Binds (KK P) d ["self"] []) := by
  obtain ⟨fd, F⟩ := He.DefD.funD (K := KK P) (d := dd47) (by kernel_rfl) (by kernel_rfl)
  have F : FunD (KK P) "__init__" "Notary.__init__" (defArgs s_Notary_init) (defBody s_Notary_init) (defScope s_Notary_init) [] [] (He.fAd (KK P) ("Notary", some "__init__")) fd := F
  have F0 : Fun (KK P) "__init__" "Notary.__init__" s_Notary_init (He.fAd (KK P) ("Notary", some "__init__")) fd := fun_of F
  exact ⟨fd, F0, Fun.binds F0 (ps := ["self"]) fun _ _ _ _ _ _ us hl => match us, hl with | [_], _ => rfl⟩
theorem D48 (P : Params) : ∃ d : FuncData, (Fun (KK P) "_law_pot" "_law_pot" s_L_pot (He.fAd (KK P) ("_law_pot", none)) d) ∧ (Binds (KK P) d ["script"] []) := by
  obtain ⟨fd, F⟩ := He.DefD.funD (K := KK P) (d := dd48) (by kernel_rfl) (by kernel_rfl)
  have F : FunD (KK P) "_law_pot" "_law_pot" (defArgs s_L_pot) (defBody s_L_pot) (defScope s_L_pot) [] [] (He.fAd (KK P) ("_law_pot", none)) fd := F
  have F0 : Fun (KK P) "_law_pot" "_law_pot" s_L_pot (He.fAd (KK P) ("_law_pot", none)) fd := fun_of F
  exact ⟨fd, F0, Fun.binds F0 (ps := ["script"]) fun _ _ _ _ _ _ us hl => match us, hl with | [_], _ => rfl⟩
theorem D49 (P : Params) : ∃ d : FuncData, (Fun (KK P) "_law_next" "_law_next" s_L_next (He.fAd (KK P) ("_law_next", none)) d) ∧ (Binds (KK P) d ["pot", "limit"] []) := by
  obtain ⟨fd, F⟩ := He.DefD.funD (K := KK P) (d := dd49) (by kernel_rfl) (by kernel_rfl)
  have F : FunD (KK P) "_law_next" "_law_next" (defArgs s_L_next) (defBody s_L_next) (defScope s_L_next) [] [] (He.fAd (KK P) ("_law_next", none)) fd := F
  have F0 : Fun (KK P) "_law_next" "_law_next" s_L_next (He.fAd (KK P) ("_law_next", none)) fd := fun_of F
  exact ⟨fd, F0, Fun.binds F0 (ps := ["pot", "limit"]) fun _ _ _ _ _ _ us hl => match us, hl with | [_, _], _ => rfl⟩
theorem D50 (P : Params) : ∃ d : FuncData, (Fun (KK P) "_law_set" "_law_set" s_L_set (He.fAd (KK P) ("_law_set", none)) d) ∧ (Binds (KK P) d ["pot", "most"] []) := by
  obtain ⟨fd, F⟩ := He.DefD.funD (K := KK P) (d := dd50) (by kernel_rfl) (by kernel_rfl)
  have F : FunD (KK P) "_law_set" "_law_set" (defArgs s_L_set) (defBody s_L_set) (defScope s_L_set) [] [] (He.fAd (KK P) ("_law_set", none)) fd := F
  have F0 : Fun (KK P) "_law_set" "_law_set" s_L_set (He.fAd (KK P) ("_law_set", none)) fd := fun_of F
  exact ⟨fd, F0, Fun.binds F0 (ps := ["pot", "most"]) fun _ _ _ _ _ _ us hl => match us, hl with | [_, _], _ => rfl⟩
theorem D51 (P : Params) : ∃ d : FuncData, (Fun (KK P) "_law_config" "_law_config" s_L_config (He.fAd (KK P) ("_law_config", none)) d) ∧ (Binds (KK P) d ["pot"] []) := by
  obtain ⟨fd, F⟩ := He.DefD.funD (K := KK P) (d := dd51) (by kernel_rfl) (by kernel_rfl)
  have F : FunD (KK P) "_law_config" "_law_config" (defArgs s_L_config) (defBody s_L_config) (defScope s_L_config) [] [] (He.fAd (KK P) ("_law_config", none)) fd := F
  have F0 : Fun (KK P) "_law_config" "_law_config" s_L_config (He.fAd (KK P) ("_law_config", none)) fd := fun_of F
  exact ⟨fd, F0, Fun.binds F0 (ps := ["pot"]) fun _ _ _ _ _ _ us hl => match us, hl with | [_], _ => rfl⟩
theorem D52 (P : Params) : ∃ d : FuncData, (Fun (KK P) "_law_made" "_law_made" s_L_made (He.fAd (KK P) ("_law_made", none)) d) ∧ (Binds (KK P) d ["parts"] []) := by
  obtain ⟨fd, F⟩ := He.DefD.funD (K := KK P) (d := dd52) (by kernel_rfl) (by kernel_rfl)
  have F : FunD (KK P) "_law_made" "_law_made" (defArgs s_L_made) (defBody s_L_made) (defScope s_L_made) [] [] (He.fAd (KK P) ("_law_made", none)) fd := F
  have F0 : Fun (KK P) "_law_made" "_law_made" s_L_made (He.fAd (KK P) ("_law_made", none)) fd := fun_of F
  exact ⟨fd, F0, Fun.binds F0 (ps := ["parts"]) fun _ _ _ _ _ _ us hl => match us, hl with | [_], _ => rfl⟩
theorem D53 (P : Params) : ∃ d : FuncData, (Fun (KK P) "_law_refused" "_law_refused" s_L_refused (He.fAd (KK P) ("_law_refused", none)) d) ∧ (Binds (KK P) d ["bonds", "seats"] []) := by
  obtain ⟨fd, F⟩ := He.DefD.funD (K := KK P) (d := dd53) (by kernel_rfl) (by kernel_rfl)
  have F : FunD (KK P) "_law_refused" "_law_refused" (defArgs s_L_refused) (defBody s_L_refused) (defScope s_L_refused) [] [] (He.fAd (KK P) ("_law_refused", none)) fd := F
  have F0 : Fun (KK P) "_law_refused" "_law_refused" s_L_refused (He.fAd (KK P) ("_law_refused", none)) fd := fun_of F
  exact ⟨fd, F0, Fun.binds F0 (ps := ["bonds", "seats"]) fun _ _ _ _ _ _ us hl => match us, hl with | [_, _], _ => rfl⟩
theorem D54 (P : Params) : ∃ d : FuncData, (Fun (KK P) "_law_due" "_law_due" s_L_due (He.fAd (KK P) ("_law_due", none)) d) ∧ (Binds (KK P) d ["bonds", "seats"] []) := by
  obtain ⟨fd, F⟩ := He.DefD.funD (K := KK P) (d := dd54) (by kernel_rfl) (by kernel_rfl)
  have F : FunD (KK P) "_law_due" "_law_due" (defArgs s_L_due) (defBody s_L_due) (defScope s_L_due) [] [] (He.fAd (KK P) ("_law_due", none)) fd := F
  have F0 : Fun (KK P) "_law_due" "_law_due" s_L_due (He.fAd (KK P) ("_law_due", none)) fd := fun_of F
  exact ⟨fd, F0, Fun.binds F0 (ps := ["bonds", "seats"]) fun _ _ _ _ _ _ us hl => match us, hl with | [_, _], _ => rfl⟩
theorem D55 (P : Params) : ∃ d : FuncData, (Fun (KK P) "law" "law" s_law (He.fAd (KK P) ("law", none)) d) ∧ (Binds (KK P) d ["script"] []) ∧ (∀ (s : Shared) (v : Value), BindsTo s d ⟨[v], []⟩ [("script", v)]) := by
  obtain ⟨fd, F⟩ := He.DefD.funD (K := KK P) (d := dd55) (by kernel_rfl) (by kernel_rfl)
  have F : FunD (KK P) "law" "law" (defArgs s_law) (defBody s_law) (defScope s_law) [] [] (He.fAd (KK P) ("law", none)) fd := F
  have F0 : Fun (KK P) "law" "law" s_law (He.fAd (KK P) ("law", none)) fd := fun_of F
  exact ⟨fd, F0, Fun.binds F0 (ps := ["script"]) fun _ _ _ _ _ _ us hl => match us, hl with | [_], _ => rfl, fun s v => FunD.bindsA (ps := ["script"]) F (fun _ _ _ _ _ _ us hl => match us, hl with | [_], _ => rfl) s [v] rfl⟩
section
variable (P : Params) {h : Heap} {mg : Str → Option Value} (X : (KK P).In h) (G : h.Ns mainGlobals mg)
include X G in
theorem e117 : ∃ t, mg "ACCOUNT_LENGTH" = some (.int 20 t) := by have h := (show ((He.Fa.int "ACCOUNT_LENGTH" 20).ok (KK P)) = true from x117 P); exact He.int_ok X G h
include X G in
theorem e118 : ∃ t, mg "BARRED_CODE" = some (.int 37 t) := by have h := (show ((He.Fa.int "BARRED_CODE" 37).ok (KK P)) = true from x118 P); exact He.int_ok X G h
include X G in
theorem e119 : ∃ t, mg "FIRST_CODE" = some (.int 32 t) := by have h := (show ((He.Fa.int "FIRST_CODE" 32).ok (KK P)) = true from x119 P); exact He.int_ok X G h
include X G in
theorem e120 : ∃ t, mg "LAST_CODE" = some (.int 126 t) := by have h := (show ((He.Fa.int "LAST_CODE" 126).ok (KK P)) = true from x120 P); exact He.int_ok X G h
include X G in
theorem e121 : ∃ t, mg "MOST_IN_BUNDLE" = some (.int 8 t) := by have h := (show ((He.Fa.int "MOST_IN_BUNDLE" 8).ok (KK P)) = true from x121 P); exact He.int_ok X G h
include X G in
theorem e126 : ∃ t, mg "TOKEN_LENGTH" = some (.int 12 t) := by have h := (show ((He.Fa.int "TOKEN_LENGTH" 12).ok (KK P)) = true from x126 P); exact He.int_ok X G h
set_option maxHeartbeats 0 in
noncomputable def txt_of : Txt (KK P) mg where
  f_shares := (He.fAd (KK P) ("shares", none))
  d_shares := (D0 P).choose
  F_shares := (D0 P).choose_spec.1
  b_shares := (D0 P).choose_spec.2
  f_next_set := (He.fAd (KK P) ("next_set", none))
  d_next_set := (D1 P).choose
  F_next_set := (D1 P).choose_spec.1
  b_next_set := (D1 P).choose_spec.2
  f_is_integer := (He.fAd (KK P) ("is_integer", none))
  d_is_integer := (D2 P).choose
  F_is_integer := (D2 P).choose_spec.1
  b_is_integer := (D2 P).choose_spec.2
  f_is_at_least := (He.fAd (KK P) ("is_at_least", none))
  d_is_at_least := (D3 P).choose
  F_is_at_least := (D3 P).choose_spec.1
  b_is_at_least := (D3 P).choose_spec.2
  f_is_text := (He.fAd (KK P) ("is_text", none))
  d_is_text := (D4 P).choose
  F_is_text := (D4 P).choose_spec.1
  b_is_text := (D4 P).choose_spec.2
  f_is_short_text := (He.fAd (KK P) ("is_short_text", none))
  d_is_short_text := (D5 P).choose
  F_is_short_text := (D5 P).choose_spec.1
  b_is_short_text := (D5 P).choose_spec.2
  f_is_account := (He.fAd (KK P) ("is_account", none))
  d_is_account := (D6 P).choose
  F_is_account := (D6 P).choose_spec.1
  b_is_account := (D6 P).choose_spec.2
  f_is_side := (He.fAd (KK P) ("is_side", none))
  d_is_side := (D7 P).choose
  F_is_side := (D7 P).choose_spec.1
  b_is_side := (D7 P).choose_spec.2
  f_is_set := (He.fAd (KK P) ("is_set", none))
  d_is_set := (D8 P).choose
  F_is_set := (D8 P).choose_spec.1
  b_is_set := (D8 P).choose_spec.2
  f_is_pair := (He.fAd (KK P) ("is_pair", none))
  d_is_pair := (D9 P).choose
  F_is_pair := (D9 P).choose_spec.1
  b_is_pair := (D9 P).choose_spec.2
  f_Config_init := (He.fAd (KK P) ("Config", some "__init__"))
  d_Config_init := (D10 P).choose
  F_Config_init := (D10 P).choose_spec.1
  kb7_Config_init := (D10 P).choose_spec.2
  f_Config_check_token := (He.fAd (KK P) ("Config", some "check_token"))
  d_Config_check_token := (D11 P).choose
  F_Config_check_token := (D11 P).choose_spec.1
  b_Config_check_token := (D11 P).choose_spec.2
  f_Config_home := (He.fAd (KK P) ("Config", some "home"))
  d_Config_home := (D12 P).choose
  F_Config_home := (D12 P).choose_spec.1
  b_Config_home := (D12 P).choose_spec.2
  f_Config_scale := (He.fAd (KK P) ("Config", some "scale"))
  d_Config_scale := (D13 P).choose
  F_Config_scale := (D13 P).choose_spec.1
  b_Config_scale := (D13 P).choose_spec.2
  f_Config_opening := (He.fAd (KK P) ("Config", some "opening"))
  d_Config_opening := (D14 P).choose
  F_Config_opening := (D14 P).choose_spec.1
  b_Config_opening := (D14 P).choose_spec.2
  f_Config_guards := (He.fAd (KK P) ("Config", some "guards"))
  d_Config_guards := (D15 P).choose
  F_Config_guards := (D15 P).choose_spec.1
  b_Config_guards := (D15 P).choose_spec.2
  f_Config_depth := (He.fAd (KK P) ("Config", some "depth"))
  d_Config_depth := (D16 P).choose
  F_Config_depth := (D16 P).choose_spec.1
  b_Config_depth := (D16 P).choose_spec.2
  f_Config_window := (He.fAd (KK P) ("Config", some "window"))
  d_Config_window := (D17 P).choose
  F_Config_window := (D17 P).choose_spec.1
  b_Config_window := (D17 P).choose_spec.2
  f_Config_delay := (He.fAd (KK P) ("Config", some "delay"))
  d_Config_delay := (D18 P).choose
  F_Config_delay := (D18 P).choose_spec.1
  b_Config_delay := (D18 P).choose_spec.2
  f_Config_bundle := (He.fAd (KK P) ("Config", some "bundle"))
  d_Config_bundle := (D19 P).choose
  F_Config_bundle := (D19 P).choose_spec.1
  b_Config_bundle := (D19 P).choose_spec.2
  f_check_list := (He.fAd (KK P) ("check_list", none))
  d_check_list := (D20 P).choose
  F_check_list := (D20 P).choose_spec.1
  b_check_list := (D20 P).choose_spec.2
  f_check_least := (He.fAd (KK P) ("check_least", none))
  d_check_least := (D21 P).choose
  F_check_least := (D21 P).choose_spec.1
  b_check_least := (D21 P).choose_spec.2
  f_check_token_row := (He.fAd (KK P) ("check_token_row", none))
  d_check_token_row := (D22 P).choose
  F_check_token_row := (D22 P).choose_spec.1
  b_check_token_row := (D22 P).choose_spec.2
  f_check_balance_row := (He.fAd (KK P) ("check_balance_row", none))
  d_check_balance_row := (D23 P).choose
  F_check_balance_row := (D23 P).choose_spec.1
  b_check_balance_row := (D23 P).choose_spec.2
  f_check_amount := (He.fAd (KK P) ("check_amount", none))
  d_check_amount := (D24 P).choose
  F_check_amount := (D24 P).choose_spec.1
  b_check_amount := (D24 P).choose_spec.2
  f_do_bond := (He.fAd (KK P) ("do_bond", none))
  d_do_bond := (D25 P).choose
  F_do_bond := (D25 P).choose_spec.1
  b_do_bond := (D25 P).choose_spec.2
  f_word_of := (He.fAd (KK P) ("word_of", none))
  d_word_of := (D26 P).choose
  F_word_of := (D26 P).choose_spec.1
  b_word_of := (D26 P).choose_spec.2
  f_outcome := (He.fAd (KK P) ("outcome", none))
  d_outcome := (D27 P).choose
  F_outcome := (D27 P).choose_spec.1
  b_outcome := (D27 P).choose_spec.2
  f_Sheet_init := (He.fAd (KK P) ("Sheet", some "__init__"))
  d_Sheet_init := (D28 P).choose
  F_Sheet_init := (D28 P).choose_spec.1
  b_Sheet_init := (D28 P).choose_spec.2
  f_Sheet_copy := (He.fAd (KK P) ("Sheet", some "copy"))
  d_Sheet_copy := (D29 P).choose
  F_Sheet_copy := (D29 P).choose_spec.1
  b_Sheet_copy := (D29 P).choose_spec.2
  f_Sheet_balance := (He.fAd (KK P) ("Sheet", some "balance"))
  d_Sheet_balance := (D30 P).choose
  F_Sheet_balance := (D30 P).choose_spec.1
  b_Sheet_balance := (D30 P).choose_spec.2
  f_Sheet_vault := (He.fAd (KK P) ("Sheet", some "vault"))
  d_Sheet_vault := (D31 P).choose
  F_Sheet_vault := (D31 P).choose_spec.1
  b_Sheet_vault := (D31 P).choose_spec.2
  f_Sheet_bonded := (He.fAd (KK P) ("Sheet", some "bonded"))
  d_Sheet_bonded := (D32 P).choose
  F_Sheet_bonded := (D32 P).choose_spec.1
  b_Sheet_bonded := (D32 P).choose_spec.2
  f_Sheet_bonders := (He.fAd (KK P) ("Sheet", some "bonders"))
  d_Sheet_bonders := (D33 P).choose
  F_Sheet_bonders := (D33 P).choose_spec.1
  b_Sheet_bonders := (D33 P).choose_spec.2
  f_Sheet_mint := (He.fAd (KK P) ("Sheet", some "mint"))
  d_Sheet_mint := (D34 P).choose
  F_Sheet_mint := (D34 P).choose_spec.1
  b_Sheet_mint := (D34 P).choose_spec.2
  f_Sheet_bond := (He.fAd (KK P) ("Sheet", some "bond"))
  d_Sheet_bond := (D35 P).choose
  F_Sheet_bond := (D35 P).choose_spec.1
  b_Sheet_bond := (D35 P).choose_spec.2
  f_copied := (He.fAd (KK P) ("copied", none))
  d_copied := (D36 P).choose
  F_copied := (D36 P).choose_spec.1
  b_copied := (D36 P).choose_spec.2
  f_held := (He.fAd (KK P) ("held", none))
  d_held := (D37 P).choose
  F_held := (D37 P).choose_spec.1
  b_held := (D37 P).choose_spec.2
  f_put := (He.fAd (KK P) ("put", none))
  d_put := (D38 P).choose
  F_put := (D38 P).choose_spec.1
  b_put := (D38 P).choose_spec.2
  f_draw := (He.fAd (KK P) ("draw", none))
  d_draw := (D39 P).choose
  F_draw := (D39 P).choose_spec.1
  b_draw := (D39 P).choose_spec.2
  f_State_init := (He.fAd (KK P) ("State", some "__init__"))
  d_State_init := (D40 P).choose
  F_State_init := (D40 P).choose_spec.1
  b_State_init := (D40 P).choose_spec.2
  f_State_copy := (He.fAd (KK P) ("State", some "copy"))
  d_State_copy := (D41 P).choose
  F_State_copy := (D41 P).choose_spec.1
  b_State_copy := (D41 P).choose_spec.2
  f_State_bonded := (He.fAd (KK P) ("State", some "bonded"))
  d_State_bonded := (D42 P).choose
  F_State_bonded := (D42 P).choose_spec.1
  b_State_bonded := (D42 P).choose_spec.2
  f_State_bonded_guards := (He.fAd (KK P) ("State", some "bonded_guards"))
  d_State_bonded_guards := (D43 P).choose
  F_State_bonded_guards := (D43 P).choose_spec.1
  b_State_bonded_guards := (D43 P).choose_spec.2
  f_State_sheet := (He.fAd (KK P) ("State", some "sheet"))
  d_State_sheet := (D44 P).choose
  F_State_sheet := (D44 P).choose_spec.1
  b_State_sheet := (D44 P).choose_spec.2
  f_State_rise := (He.fAd (KK P) ("State", some "rise"))
  d_State_rise := (D45 P).choose
  F_State_rise := (D45 P).choose_spec.1
  b_State_rise := (D45 P).choose_spec.2
  f_opening_state := (He.fAd (KK P) ("opening_state", none))
  d_opening_state := (D46 P).choose
  F_opening_state := (D46 P).choose_spec.1
  b_opening_state := (D46 P).choose_spec.2
  f_Notary_init := (He.fAd (KK P) ("Notary", some "__init__"))
  d_Notary_init := (D47 P).choose
  F_Notary_init := (D47 P).choose_spec.1
  b_Notary_init := (D47 P).choose_spec.2
  f_L_pot := (He.fAd (KK P) ("_law_pot", none))
  d_L_pot := (D48 P).choose
  F_L_pot := (D48 P).choose_spec.1
  b_L_pot := (D48 P).choose_spec.2
  f_L_next := (He.fAd (KK P) ("_law_next", none))
  d_L_next := (D49 P).choose
  F_L_next := (D49 P).choose_spec.1
  b_L_next := (D49 P).choose_spec.2
  f_L_set := (He.fAd (KK P) ("_law_set", none))
  d_L_set := (D50 P).choose
  F_L_set := (D50 P).choose_spec.1
  b_L_set := (D50 P).choose_spec.2
  f_L_config := (He.fAd (KK P) ("_law_config", none))
  d_L_config := (D51 P).choose
  F_L_config := (D51 P).choose_spec.1
  b_L_config := (D51 P).choose_spec.2
  f_L_made := (He.fAd (KK P) ("_law_made", none))
  d_L_made := (D52 P).choose
  F_L_made := (D52 P).choose_spec.1
  b_L_made := (D52 P).choose_spec.2
  f_L_refused := (He.fAd (KK P) ("_law_refused", none))
  d_L_refused := (D53 P).choose
  F_L_refused := (D53 P).choose_spec.1
  b_L_refused := (D53 P).choose_spec.2
  f_L_due := (He.fAd (KK P) ("_law_due", none))
  d_L_due := (D54 P).choose
  F_L_due := (D54 P).choose_spec.1
  b_L_due := (D54 P).choose_spec.2
  f_law := (He.fAd (KK P) ("law", none))
  d_law := (D55 P).choose
  F_law := (D55 P).choose_spec.1
  b_law := (D55 P).choose_spec.2.1
  g_shares := by have h := (show ((He.Fa.glo "shares").ok (KK P)) = true from x0 P); exact He.glo_ok X G h
  g_next_set := by have h := (show ((He.Fa.glo "next_set").ok (KK P)) = true from x1 P); exact He.glo_ok X G h
  g_is_integer := by have h := (show ((He.Fa.glo "is_integer").ok (KK P)) = true from x2 P); exact He.glo_ok X G h
  g_is_at_least := by have h := (show ((He.Fa.glo "is_at_least").ok (KK P)) = true from x3 P); exact He.glo_ok X G h
  g_is_text := by have h := (show ((He.Fa.glo "is_text").ok (KK P)) = true from x4 P); exact He.glo_ok X G h
  g_is_short_text := by have h := (show ((He.Fa.glo "is_short_text").ok (KK P)) = true from x5 P); exact He.glo_ok X G h
  g_is_account := by have h := (show ((He.Fa.glo "is_account").ok (KK P)) = true from x6 P); exact He.glo_ok X G h
  g_is_side := by have h := (show ((He.Fa.glo "is_side").ok (KK P)) = true from x7 P); exact He.glo_ok X G h
  g_is_set := by have h := (show ((He.Fa.glo "is_set").ok (KK P)) = true from x8 P); exact He.glo_ok X G h
  g_is_pair := by have h := (show ((He.Fa.glo "is_pair").ok (KK P)) = true from x9 P); exact He.glo_ok X G h
  g_check_list := by have h := (show ((He.Fa.glo "check_list").ok (KK P)) = true from x10 P); exact He.glo_ok X G h
  g_check_least := by have h := (show ((He.Fa.glo "check_least").ok (KK P)) = true from x11 P); exact He.glo_ok X G h
  g_check_token_row := by have h := (show ((He.Fa.glo "check_token_row").ok (KK P)) = true from x12 P); exact He.glo_ok X G h
  g_check_balance_row := by have h := (show ((He.Fa.glo "check_balance_row").ok (KK P)) = true from x13 P); exact He.glo_ok X G h
  g_check_amount := by have h := (show ((He.Fa.glo "check_amount").ok (KK P)) = true from x14 P); exact He.glo_ok X G h
  g_do_bond := by have h := (show ((He.Fa.glo "do_bond").ok (KK P)) = true from x15 P); exact He.glo_ok X G h
  g_word_of := by have h := (show ((He.Fa.glo "word_of").ok (KK P)) = true from x16 P); exact He.glo_ok X G h
  g_outcome := by have h := (show ((He.Fa.glo "outcome").ok (KK P)) = true from x17 P); exact He.glo_ok X G h
  g_copied := by have h := (show ((He.Fa.glo "copied").ok (KK P)) = true from x18 P); exact He.glo_ok X G h
  g_held := by have h := (show ((He.Fa.glo "held").ok (KK P)) = true from x19 P); exact He.glo_ok X G h
  g_put := by have h := (show ((He.Fa.glo "put").ok (KK P)) = true from x20 P); exact He.glo_ok X G h
  g_draw := by have h := (show ((He.Fa.glo "draw").ok (KK P)) = true from x21 P); exact He.glo_ok X G h
  g_opening_state := by have h := (show ((He.Fa.glo "opening_state").ok (KK P)) = true from x22 P); exact He.glo_ok X G h
  g_L_pot := by have h := (show ((He.Fa.glo "_law_pot").ok (KK P)) = true from x23 P); exact He.glo_ok X G h
  g_L_next := by have h := (show ((He.Fa.glo "_law_next").ok (KK P)) = true from x24 P); exact He.glo_ok X G h
  g_L_set := by have h := (show ((He.Fa.glo "_law_set").ok (KK P)) = true from x25 P); exact He.glo_ok X G h
  g_L_config := by have h := (show ((He.Fa.glo "_law_config").ok (KK P)) = true from x26 P); exact He.glo_ok X G h
  g_L_made := by have h := (show ((He.Fa.glo "_law_made").ok (KK P)) = true from x27 P); exact He.glo_ok X G h
  g_L_refused := by have h := (show ((He.Fa.glo "_law_refused").ok (KK P)) = true from x28 P); exact He.glo_ok X G h
  g_L_due := by have h := (show ((He.Fa.glo "_law_due").ok (KK P)) = true from x29 P); exact He.glo_ok X G h
  g_law := by have h := (show ((He.Fa.glo "law").ok (KK P)) = true from x30 P); exact He.glo_ok X G h
  g_BridgeError := by have h := (show ((He.Fa.glo "BridgeError").ok (KK P)) = true from x31 P); exact He.glo_ok X G h
  xe_BridgeError := by have h := (show (decide (PySem.W.excIn (KK P) (He.ga (KK P) "BridgeError") [.type "ValueError", .type "Exception", .type "BaseException", .type "object"] "ValueError.__new__" = true)) = true from x32 P); exact of_decide_eq_true h
  ke_BridgeError := by have h := (show (decide (PySem.W.keepIn (KK P) (.ref (He.ga (KK P) "BridgeError")) = true)) = true from x33 P); exact of_decide_eq_true h
  be_BridgeError := by have h := (show (decide (PySem.W.subIn (KK P) (.ref (He.ga (KK P) "BridgeError")) (.type "BaseException") = some true)) = true from x34 P); exact of_decide_eq_true h
  te_BridgeError := by have h := (show (decide (PySem.W.typeIn (KK P) (.ref (He.ga (KK P) "BridgeError")) = some (.type "type"))) = true from x35 P); exact of_decide_eq_true h
  ie_BridgeError := by have h := (show (decide (PySem.W.isClsIn (KK P) (He.ga (KK P) "BridgeError") = true)) = true from x36 P); exact of_decide_eq_true h
  se_BridgeError := by have h := (show (decide (PySem.W.subIn (KK P) (.ref (He.ga (KK P) "BridgeError")) (.ref (He.ga (KK P) "BridgeError")) = some true)) = true from x37 P); exact of_decide_eq_true h
  hd_BridgeError := by have h := (show (decide (PySem.W.hasDictIn (KK P) (He.ga (KK P) "BridgeError") = true)) = true from x38 P); exact of_decide_eq_true h
  g_InvalidArgument := by have h := (show ((He.Fa.glo "InvalidArgument").ok (KK P)) = true from x39 P); exact He.glo_ok X G h
  xe_InvalidArgument := by have h := (show (decide (PySem.W.excIn (KK P) (He.ga (KK P) "InvalidArgument") [.type "ValueError", .type "Exception", .type "BaseException", .type "object"] "ValueError.__new__" = true)) = true from x40 P); exact of_decide_eq_true h
  ke_InvalidArgument := by have h := (show (decide (PySem.W.keepIn (KK P) (.ref (He.ga (KK P) "InvalidArgument")) = true)) = true from x41 P); exact of_decide_eq_true h
  be_InvalidArgument := by have h := (show (decide (PySem.W.subIn (KK P) (.ref (He.ga (KK P) "InvalidArgument")) (.type "BaseException") = some true)) = true from x42 P); exact of_decide_eq_true h
  te_InvalidArgument := by have h := (show (decide (PySem.W.typeIn (KK P) (.ref (He.ga (KK P) "InvalidArgument")) = some (.type "type"))) = true from x43 P); exact of_decide_eq_true h
  ie_InvalidArgument := by have h := (show (decide (PySem.W.isClsIn (KK P) (He.ga (KK P) "InvalidArgument") = true)) = true from x44 P); exact of_decide_eq_true h
  se_InvalidArgument := by have h := (show (decide (PySem.W.subIn (KK P) (.ref (He.ga (KK P) "InvalidArgument")) (.ref (He.ga (KK P) "InvalidArgument")) = some true)) = true from x45 P); exact of_decide_eq_true h
  hg_InvalidArgument := by have h := (show (decide (PySem.W.findIn (KK P) (.ref (He.ga (KK P) "InvalidArgument")) "__getattribute__" = some (some (.builtin "BaseException.__getattribute__")))) = true from x46 P); exact of_decide_eq_true h
  hk_InvalidArgument := by have h := (show (decide (PySem.W.findIn (KK P) (.ref (He.ga (KK P) "InvalidArgument")) "__getattr__" = some none)) = true from x47 P); exact of_decide_eq_true h
  hd_InvalidArgument := by have h := (show (decide (PySem.W.hasDictIn (KK P) (He.ga (KK P) "InvalidArgument") = true)) = true from x48 P); exact of_decide_eq_true h
  ha_InvalidArgument := by have h := (show (decide (PySem.W.findIn (KK P) (.ref (He.ga (KK P) "InvalidArgument")) "__class__" = some (some (.builtin "object.__class__")))) = true from x49 P); exact of_decide_eq_true h
  hm_InvalidArgument := by have h := (show (decide (PySem.W.mroIn (KK P) (He.ga (KK P) "InvalidArgument") (.type "object") = some true)) = true from x50 P); exact of_decide_eq_true h
  hn_InvalidArgument := by have h := (show (decide (PySem.W.specialIn (KK P) (.builtin "object.__class__") "__get__" = some (some (.builtin "getset_descriptor.__get__")))) = true from x51 P); exact of_decide_eq_true h
  ht_InvalidArgument := by have h := (show (decide (PySem.W.takesIn (KK P) (.builtin "object.__class__") = some true)) = true from x52 P); exact of_decide_eq_true h
  ue_InvalidArgument := by have h := (show (decide (PySem.W.subIn (KK P) (.ref (He.ga (KK P) "InvalidArgument")) (.ref (He.ga (KK P) "BridgeError")) = some true)) = true from x53 P); exact of_decide_eq_true h
  g_Blocks := by have h := (show ((He.Fa.glo "Blocks").ok (KK P)) = true from x54 P); exact He.glo_ok X G h
  cl_Blocks := by have h := (show ((He.Fa.cls "Blocks").ok (KK P)) = true from x55 P); exact He.cls_ok h
  g_Config := by have h := (show ((He.Fa.glo "Config").ok (KK P)) = true from x56 P); exact He.glo_ok X G h
  cl_Config := by have h := (show ((He.Fa.cls "Config").ok (KK P)) = true from x57 P); exact He.cls_ok h
  mk_Config := by have h := (show ((He.Fa.mkr "Config").ok (KK P)) = true from x58 P); exact He.mkr_ok h
  m_Config_check_token := by have h := (show ((He.Fa.meth "Config" "check_token").ok (KK P)) = true from x59 P); exact He.meth_ok h
  m_Config_home := by have h := (show ((He.Fa.meth "Config" "home").ok (KK P)) = true from x60 P); exact He.meth_ok h
  m_Config_scale := by have h := (show ((He.Fa.meth "Config" "scale").ok (KK P)) = true from x61 P); exact He.meth_ok h
  m_Config_opening := by have h := (show ((He.Fa.meth "Config" "opening").ok (KK P)) = true from x62 P); exact He.meth_ok h
  m_Config_guards := by have h := (show ((He.Fa.meth "Config" "guards").ok (KK P)) = true from x63 P); exact He.meth_ok h
  m_Config_depth := by have h := (show ((He.Fa.meth "Config" "depth").ok (KK P)) = true from x64 P); exact He.meth_ok h
  m_Config_window := by have h := (show ((He.Fa.meth "Config" "window").ok (KK P)) = true from x65 P); exact He.meth_ok h
  m_Config_delay := by have h := (show ((He.Fa.meth "Config" "delay").ok (KK P)) = true from x66 P); exact He.meth_ok h
  m_Config_bundle := by have h := (show ((He.Fa.meth "Config" "bundle").ok (KK P)) = true from x67 P); exact He.meth_ok h
  n_Config_tokens := by have h := (show ((He.Fa.noat "Config" "_tokens").ok (KK P)) = true from x68 P); exact He.noat_ok h
  n_Config_balances := by have h := (show ((He.Fa.noat "Config" "_balances").ok (KK P)) = true from x69 P); exact He.noat_ok h
  n_Config_guards := by have h := (show ((He.Fa.noat "Config" "_guards").ok (KK P)) = true from x70 P); exact He.noat_ok h
  n_Config_depth := by have h := (show ((He.Fa.noat "Config" "_depth").ok (KK P)) = true from x71 P); exact He.noat_ok h
  n_Config_window := by have h := (show ((He.Fa.noat "Config" "_window").ok (KK P)) = true from x72 P); exact He.noat_ok h
  n_Config_delay := by have h := (show ((He.Fa.noat "Config" "_delay").ok (KK P)) = true from x73 P); exact He.noat_ok h
  n_Config_bundle := by have h := (show ((He.Fa.noat "Config" "_bundle").ok (KK P)) = true from x74 P); exact He.noat_ok h
  g_Sheet := by have h := (show ((He.Fa.glo "Sheet").ok (KK P)) = true from x75 P); exact He.glo_ok X G h
  cl_Sheet := by have h := (show ((He.Fa.cls "Sheet").ok (KK P)) = true from x76 P); exact He.cls_ok h
  mk_Sheet := by have h := (show ((He.Fa.mkr "Sheet").ok (KK P)) = true from x77 P); exact He.mkr_ok h
  m_Sheet_copy := by have h := (show ((He.Fa.meth "Sheet" "copy").ok (KK P)) = true from x78 P); exact He.meth_ok h
  m_Sheet_balance := by have h := (show ((He.Fa.meth "Sheet" "balance").ok (KK P)) = true from x79 P); exact He.meth_ok h
  m_Sheet_vault := by have h := (show ((He.Fa.meth "Sheet" "vault").ok (KK P)) = true from x80 P); exact He.meth_ok h
  m_Sheet_bonded := by have h := (show ((He.Fa.meth "Sheet" "bonded").ok (KK P)) = true from x81 P); exact He.meth_ok h
  m_Sheet_bonders := by have h := (show ((He.Fa.meth "Sheet" "bonders").ok (KK P)) = true from x82 P); exact He.meth_ok h
  m_Sheet_mint := by have h := (show ((He.Fa.meth "Sheet" "mint").ok (KK P)) = true from x83 P); exact He.meth_ok h
  m_Sheet_bond := by have h := (show ((He.Fa.meth "Sheet" "bond").ok (KK P)) = true from x84 P); exact He.meth_ok h
  n_Sheet_config := by have h := (show ((He.Fa.noat "Sheet" "_config").ok (KK P)) = true from x85 P); exact He.noat_ok h
  n_Sheet_side := by have h := (show ((He.Fa.noat "Sheet" "_side").ok (KK P)) = true from x86 P); exact He.noat_ok h
  n_Sheet_balances := by have h := (show ((He.Fa.noat "Sheet" "_balances").ok (KK P)) = true from x87 P); exact He.noat_ok h
  n_Sheet_bonds := by have h := (show ((He.Fa.noat "Sheet" "_bonds").ok (KK P)) = true from x88 P); exact He.noat_ok h
  n_Sheet_vaults := by have h := (show ((He.Fa.noat "Sheet" "_vaults").ok (KK P)) = true from x89 P); exact He.noat_ok h
  g_State := by have h := (show ((He.Fa.glo "State").ok (KK P)) = true from x90 P); exact He.glo_ok X G h
  cl_State := by have h := (show ((He.Fa.cls "State").ok (KK P)) = true from x91 P); exact He.cls_ok h
  mk_State := by have h := (show ((He.Fa.mkr "State").ok (KK P)) = true from x92 P); exact He.mkr_ok h
  m_State_copy := by have h := (show ((He.Fa.meth "State" "copy").ok (KK P)) = true from x93 P); exact He.meth_ok h
  m_State_bonded := by have h := (show ((He.Fa.meth "State" "bonded").ok (KK P)) = true from x94 P); exact He.meth_ok h
  m_State_bonded_guards := by have h := (show ((He.Fa.meth "State" "bonded_guards").ok (KK P)) = true from x95 P); exact He.meth_ok h
  m_State_sheet := by have h := (show ((He.Fa.meth "State" "sheet").ok (KK P)) = true from x96 P); exact He.meth_ok h
  m_State_rise := by have h := (show ((He.Fa.meth "State" "rise").ok (KK P)) = true from x97 P); exact He.meth_ok h
  n_State_config := by have h := (show ((He.Fa.noat "State" "_config").ok (KK P)) = true from x98 P); exact He.noat_ok h
  n_State_side := by have h := (show ((He.Fa.noat "State" "_side").ok (KK P)) = true from x99 P); exact He.noat_ok h
  n_State_sheet := by have h := (show ((He.Fa.noat "State" "_sheet").ok (KK P)) = true from x100 P); exact He.noat_ok h
  n_State_height := by have h := (show ((He.Fa.noat "State" "_height").ok (KK P)) = true from x101 P); exact He.noat_ok h
  n_State_sets := by have h := (show ((He.Fa.noat "State" "_sets").ok (KK P)) = true from x102 P); exact He.noat_ok h
  n_State_stops := by have h := (show ((He.Fa.noat "State" "_stops").ok (KK P)) = true from x103 P); exact He.noat_ok h
  n_State_stopped := by have h := (show ((He.Fa.noat "State" "_stopped").ok (KK P)) = true from x104 P); exact He.noat_ok h
  n_State_transfers := by have h := (show ((He.Fa.noat "State" "_transfers").ok (KK P)) = true from x105 P); exact He.noat_ok h
  n_State_returned := by have h := (show ((He.Fa.noat "State" "_returned").ok (KK P)) = true from x106 P); exact He.noat_ok h
  n_State_taken := by have h := (show ((He.Fa.noat "State" "_taken").ok (KK P)) = true from x107 P); exact He.noat_ok h
  n_State_waiting := by have h := (show ((He.Fa.noat "State" "_waiting").ok (KK P)) = true from x108 P); exact He.noat_ok h
  n_State_deliveries := by have h := (show ((He.Fa.noat "State" "_deliveries").ok (KK P)) = true from x109 P); exact He.noat_ok h
  g_Chain := by have h := (show ((He.Fa.glo "Chain").ok (KK P)) = true from x110 P); exact He.glo_ok X G h
  cl_Chain := by have h := (show ((He.Fa.cls "Chain").ok (KK P)) = true from x111 P); exact He.cls_ok h
  g_Notary := by have h := (show ((He.Fa.glo "Notary").ok (KK P)) = true from x112 P); exact He.glo_ok X G h
  cl_Notary := by have h := (show ((He.Fa.cls "Notary").ok (KK P)) = true from x113 P); exact He.cls_ok h
  mk_Notary := by have h := (show ((He.Fa.mkr "Notary").ok (KK P)) = true from x114 P); exact He.mkr_ok h
  n_Notary_table := by have h := (show ((He.Fa.noat "Notary" "_table").ok (KK P)) = true from x115 P); exact He.noat_ok h
  n_Notary_numbers := by have h := (show ((He.Fa.noat "Notary" "_numbers").ok (KK P)) = true from x116 P); exact He.noat_ok h
  t_ACCOUNT_LENGTH := (e117 P X G).choose
  c_ACCOUNT_LENGTH := (e117 P X G).choose_spec
  t_BARRED_CODE := (e118 P X G).choose
  c_BARRED_CODE := (e118 P X G).choose_spec
  t_FIRST_CODE := (e119 P X G).choose
  c_FIRST_CODE := (e119 P X G).choose_spec
  t_LAST_CODE := (e120 P X G).choose
  c_LAST_CODE := (e120 P X G).choose_spec
  t_MOST_IN_BUNDLE := (e121 P X G).choose
  c_MOST_IN_BUNDLE := (e121 P X G).choose_spec
  c_ORDERS := by have h := (show ((He.Fa.glo "ORDERS").ok (KK P)) = true from x122 P); exact He.glo_ok X G h
  c_PARTS := by have h := (show ((He.Fa.glo "PARTS").ok (KK P)) = true from x123 P); exact He.glo_ok X G h
  c_SIDES := by have h := (show ((He.Fa.glo "SIDES").ok (KK P)) = true from x124 P); exact He.glo_ok X G h
  k_SIDES := by have h := (show (He.tupB (KK P) "SIDES" [.str "west", .str "east"]) = true from x125 P); exact sqTK_of (He.tupB_ok h fun _ => none)
  t_TOKEN_LENGTH := (e126 P X G).choose
  c_TOKEN_LENGTH := (e126 P X G).choose_spec
  z_abs := by have h := (show ((He.Fa.free "abs").ok (KK P)) = true from x127 P); exact He.free_ok X G h
  z_any := by have h := (show ((He.Fa.free "any").ok (KK P)) = true from x128 P); exact He.free_ok X G h
  z_bool := by have h := (show ((He.Fa.free "bool").ok (KK P)) = true from x129 P); exact He.free_ok X G h
  z_dict := by have h := (show ((He.Fa.free "dict").ok (KK P)) = true from x130 P); exact He.free_ok X G h
  z_int := by have h := (show ((He.Fa.free "int").ok (KK P)) = true from x131 P); exact He.free_ok X G h
  z_isinstance := by have h := (show ((He.Fa.free "isinstance").ok (KK P)) = true from x132 P); exact He.free_ok X G h
  z_len := by have h := (show ((He.Fa.free "len").ok (KK P)) = true from x133 P); exact He.free_ok X G h
  z_list := by have h := (show ((He.Fa.free "list").ok (KK P)) = true from x134 P); exact He.free_ok X G h
  z_ord := by have h := (show ((He.Fa.free "ord").ok (KK P)) = true from x135 P); exact He.free_ok X G h
  z_range := by have h := (show ((He.Fa.free "range").ok (KK P)) = true from x136 P); exact He.free_ok X G h
  z_sorted := by have h := (show ((He.Fa.free "sorted").ok (KK P)) = true from x137 P); exact He.free_ok X G h
  z_str := by have h := (show ((He.Fa.free "str").ok (KK P)) = true from x138 P); exact He.free_ok X G h
  z_sum := by have h := (show ((He.Fa.free "sum").ok (KK P)) = true from x139 P); exact He.free_ok X G h
  z_tuple := by have h := (show ((He.Fa.free "tuple").ok (KK P)) = true from x140 P); exact He.free_ok X G h
  C_BridgeError := (He.ga (KK P) "BridgeError")
  C_InvalidArgument := (He.ga (KK P) "InvalidArgument")
  C_Blocks := (He.ga (KK P) "Blocks")
  C_Config := (He.ga (KK P) "Config")
  C_Sheet := (He.ga (KK P) "Sheet")
  C_State := (He.ga (KK P) "State")
  C_Chain := (He.ga (KK P) "Chain")
  C_Notary := (He.ga (KK P) "Notary")
  a_SIDES := (He.ga (KK P) "SIDES")
  a_PARTS := (He.ga (KK P) "PARTS")
  a_ORDERS := (He.ga (KK P) "ORDERS")
end
def codeAt (K : PySem.W.Frag) (f : Addr) : Option Value := match K.lookup f with
  | some o => (match o.data with
    | .func fd => some fd.code
    | _ => none)
  | none => none
theorem code_of {K : PySem.W.Frag} {x q : Str} {st : Stmt} {f : Addr} {fd : FuncData} {v : Value} (F : Fun K x q st f fd) (h : codeAt K f = some v) : fd.code = v := by
  obtain ⟨oc, od, kV, doc, pm, an, cdv, ct, osl, rfl, lk, hcd⟩ := F.ex
  unfold codeAt at h
  rw [lk] at h
  exact Option.some.inj h
def oTab (P : Params) : Obj := ⟨.type "code", none, .fields [.str "shares" 527, .str "shares" 528, .str "/claim/cut.py" 529, .int (48) 0, .int (2) 0, .int (0) 0, .int (0) 0, .int (3) 0, .ref 270, .bool true, .int (181) 0, .ref 271, .none, .none, .none, .ref 272, .int (530) 0, .int (48) 0, .str "/claim/cut.py" 531].toArray, [].toArray⟩
theorem oTab_at (P : Params) : (KK P).lookup 273 = some (oTab P) := by kernel_rfl
theorem tab_no (P : Params) : (KK P).lookup 271 = none := by kernel_rfl
theorem tab_code (P : Params) : ((D0 P).choose).code = .ref 273 := code_of ((D0 P).choose_spec.1) (show codeAt (KK P) (He.fAd (KK P) ("shares", none)) = some (.ref 273) by kernel_rfl)
theorem tab_hd {P : Params} {h : Heap} (X : (KK P).In h) : PySem.W.CodeHd h 273 271 := ⟨oTab P, _, _, _, _, _, _, _, _, X _ _ (oTab_at P), rfl, rfl, rfl, rfl, rfl, rfl, rfl, rfl, by decide⟩
theorem tab_in {P : Params} {h : Heap} (X : (KKT P).In h) : h.get? 271 = some { cls := .none, data := .fields #[] } := X _ _ rfl
theorem tab_tl {P : Params} {h : Heap} (X : (KKT P).In h) : (KK P).In h := fun a o e => X a o (by
  show List.lookup a ((271, _) :: KK P) = some o
  rw [List.lookup_cons]
  by_cases q : a = 271
  · rw [q, tab_no] at e; cases e
  · rw [beq_false_of_ne q]; exact e)
def od_ORDERS (P : Params) : List DictEntry := [⟨PyData.keyHash P "pay", .str "pay" 1338, .ref 637⟩, ⟨PyData.keyHash P "send", .str "send" 1339, .ref 644⟩, ⟨PyData.keyHash P "take", .str "take" 1340, .ref 779⟩, ⟨PyData.keyHash P "claim", .str "claim" 1341, .ref 786⟩, ⟨PyData.keyHash P "bond", .str "bond" 1342, .ref 651⟩, ⟨PyData.keyHash P "unbond", .str "unbond" 1343, .ref 656⟩, ⟨PyData.keyHash P "accuse", .str "accuse" 1344, .ref 661⟩]
theorem od_ORDERS_at (P : Params) : (KK P).lookup (He.ga (KK P) "ORDERS") = some ⟨.type "dict", none, .dict (od_ORDERS P).toArray 7, #[]⟩ := by kernel_rfl
theorem od_ORDERS_lit (P : Params) : PySem.W.KeysLit P (od_ORDERS P).toArray.toList := And.intro ⟨_, _, rfl, rfl⟩ (And.intro ⟨_, _, rfl, rfl⟩ (And.intro ⟨_, _, rfl, rfl⟩ (And.intro ⟨_, _, rfl, rfl⟩ (And.intro ⟨_, _, rfl, rfl⟩ (And.intro ⟨_, _, rfl, rfl⟩ (And.intro ⟨_, _, rfl, rfl⟩ (True.intro)))))))
def od_PARTS (P : Params) : List DictEntry := [⟨PyData.keyHash P "pay", .str "pay" 1353, .int (5) 1354⟩, ⟨PyData.keyHash P "send", .str "send" 1355, .int (7) 1356⟩, ⟨PyData.keyHash P "take", .str "take" 1357, .int (4) 1358⟩, ⟨PyData.keyHash P "claim", .str "claim" 1359, .int (3) 1360⟩, ⟨PyData.keyHash P "bond", .str "bond" 1361, .int (4) 1362⟩, ⟨PyData.keyHash P "unbond", .str "unbond" 1363, .int (4) 1364⟩, ⟨PyData.keyHash P "accuse", .str "accuse" 1365, .int (4) 1366⟩]
theorem od_PARTS_at (P : Params) : (KK P).lookup (He.ga (KK P) "PARTS") = some ⟨.type "dict", none, .dict (od_PARTS P).toArray 7, #[]⟩ := by kernel_rfl
theorem od_PARTS_lit (P : Params) : PySem.W.KeysLit P (od_PARTS P).toArray.toList := And.intro ⟨_, _, rfl, rfl⟩ (And.intro ⟨_, _, rfl, rfl⟩ (And.intro ⟨_, _, rfl, rfl⟩ (And.intro ⟨_, _, rfl, rfl⟩ (And.intro ⟨_, _, rfl, rfl⟩ (And.intro ⟨_, _, rfl, rfl⟩ (And.intro ⟨_, _, rfl, rfl⟩ (True.intro)))))))
theorem kd_of (w : World) {h : Heap} {mg : Str → Option Value} (X : (KK w.params).In h) (G : h.Ns mainGlobals mg) : KDs (txt_of w.params X G) w where
  o1 := ⟨_, _, .ref (He.fAd (KK w.params) ("do_bond", none)), od_ORDERS_at w.params, od_ORDERS_lit w.params, (by kernel_rfl), rfl⟩
  p0 := ⟨_, _, od_PARTS_at w.params, od_PARTS_lit w.params, (by kernel_rfl)⟩
  p1 := ⟨_, _, .int (4) 1362, od_PARTS_at w.params, od_PARTS_lit w.params, (by kernel_rfl), ⟨_, rfl⟩⟩
end Pf
open PySem PySem.W PySem.Calls PyProof.Rows
set_option maxRecDepth 100000 in
set_option maxHeartbeats 0 in
theorem PySem.Challenge.cw_vaultbridge_k39_shares_holds : PySem.Challenge.rw_vaultbridge_k39_shares.Holds := by
  w_on; o_law
  refine HandSHeadRun.head_any (r := OpenLaw.row PySem.Challenge.rw_vaultbridge_k39_shares) (q := Pf.qv) (H := Pf.hk) (ob := Pf.obs) (M := 30000) (loose := Pf.nms) (d := HandSHeadRun.topDef (PySem.W.OpenLaw.row PySem.Challenge.rw_vaultbridge_k39_shares).prog 131) (kwd := []) Pf.obs_eq
    (by kernel_rfl) (fun s => by kernel_rfl) Pf.run (by kernel_rfl) (by kernel_rfl) (by kernel_rfl) (by rfl) (by first | assumption | decide +kernel) (by decide +kernel) ⟨rfl, rfl, rfl, rfl, rfl, by decide +kernel⟩ ?hw ?hc
  case hw => w_witness2
  case hc =>
    refine LamX.walk_ofTs (l := PySem.Challenge.rw_vaultbridge_k39_shares) (n := 63) (k := 9) (x := "script") (K := Pf.KK) (CX := fun _ => L2.CX0) rfl (by decide) (by kernel_rfl) ⟨rfl, by decide, by decide⟩ (fun w h Y => Pf.tab_tl (PySem.W.kIn_of Y)) ?F (fun _ _ _ _ _ h => h)
    intro w mg fa h Y KX G hmg0
    have hmg : mg ("law" : PySem.Str) = some (.ref fa) := by
      have e : (HandSHeadRun.topDef (PySem.W.OpenLaw.row PySem.Challenge.rw_vaultbridge_k39_shares).prog 131).name = ("law" : PySem.Str) := by kernel_rfl
      rw [← e]
      exact hmg0
    have e := hmg.symm.trans (Pf.txt_of w.params KX G).g_law
    cases e
    have m1 : ∀ p ∈ [((273 : Addr), (271 : Addr))], p = (273, 271) := fun p hp => List.mem_singleton.mp hp
    exact ⟨_, [(273, 271)], Pf.spLawT (Pf.KK w.params) 271, fun p hp => by rw [m1 p hp]; exact Pf.tab_in (PySem.W.kIn_of Y), fun p hp => by rw [m1 p hp]; exact Pf.tab_no _, fun p hp => by rw [m1 p hp]; exact Pf.tab_hd KX, (Pf.D55 w.params).choose_spec.2.2,
      fun H a ns hl _ hH hS => ⟨a, ns, rfl, hS, hl, hH (273, 271) (List.mem_singleton.mpr rfl), fun _ => rfl⟩, fun base _ _ hTB => Pf.ok_law (T := Pf.txt_of w.params KX G) (Pf.kd_of w KX G) (Pf.tab_code _) (hTB (273, 271) (List.mem_singleton.mpr rfl)) (Pf.txt_of w.params KX G)⟩
