import PyProof.Rows.All
import Wide.All
import OpenK.AllK
import Wide.FinOn
import PyProof.EqAt
import PyProof.EqKinds
import PyProof.TupleCall
import KE.BitLaws
import PyProof.ExcInit
import PyProof.InstStoreFacts
import PyProof.StationsW
import PyProof.RulesTry
import PyProof.ExcBaseAll.Exception
import PyProof.ExcAttrAll.Exception
import PyProof.RulesAs
import PySem.Challenge.RW_objectsessions_s01_answers
import KE.OsGo
import KE.KDictOf
import KE.KDictList
import PyProof.Rows.StrNews2
import VauowBaseSpec
import KE.KSortTupUse
import PyProof.Draws
import PyProof.EnumMake
import PyProof.DictItems
import PyVauowc
import Open.SpecLaws
import KE.OsHead
set_option Elab.async false
set_option compiler.extract_closed false
set_option bootstrap.genMatcherCode false
set_option genSizeOf false
set_option linter.all false
set_option maxRecDepth 100000
set_option maxHeartbeats 0
local macro_rules|`(tactic|show $e)=>`(tactic|refine $e)
def Wl:=@List.length_map
def Wm:=@PySem.wpAny_bind
def Wn:=@if_neg
def Wo:=@List.getElem?_eq_some_iff
def Wq:=@List.mem_of_getElem?
def Wr:=@List.getElem?_eq_getElem
def Ws:=@List.getElem?_map
def Wt:=@if_pos
def Wu:=@Nat.le_refl
def Wv:=@PySem.Heap.get?_push_of_some
def Ww:=@PySem.wpAny_pure
def Wx:=@PySem.sizeLine_eq
def Wy:=@List.mem_map
def Wz:=@List.mem_cons_of_mem
def WB:=@List.mem_cons
def WC:=@decide_eq_false
def WD:=@List.mem_cons_self
def WG:=@List.length_cons
def WH:=@PySem.Heap.get?_push_size
def WK:=@decide_eq_true
def WM:=@List.map_cons
def WN:=@List.map_map
def WO:=@Int.eq_ofNat_of_zero_le
def WQ:=@Int.toNat_natCast
def WR:=@PySem.Heap.lt_size
def WT:=@PySem.PassesOwn.leaving
def WU:=@List.size_toArray
def WV:=@Bool.and_eq_true
def WX:=@List.getElem?_zipIdx
def WY:=@List.length_append
def WZ:=@List.map_append
def W0:=@List.mem_append
def W2:=@List.take_of_length_le
def W3:=@Bool.false_ne_true
def W4:=@Nat.lt_of_lt_of_le
def W5:=@Option.some.inj
def W6:=@Nat.ne_of_lt
def W7:=@List.take_add_one
def W8:=@PySem.F.plainAttrs_list
def W9:=@List.pairwise_map
def W_:=@List.mem_filter
def Xa:=@Bool.eq_false_iff
def Xb:=@Nat.zero_le
def Xc:=@List.mem_map_of_mem
def Xd:=@List.mem_singleton
def Xe:=@List.getElem?_set_self
def Xf:=@List.mem_of_find?_eq_some
def Xg:=@Bool.eq_iff_iff
def Xh:=@List.getElem?_eq_none
def Xi:=@Nat.le_trans
def Xj:=@List.length_nil
def Xk:=@List.drop_eq_nil_of_le
def Xl:=@PySem.F.slot_list_append
def Xm:=@PySem.mem_of_lookup
def Xn:=@List.getElem?_set_ne
def Xo:=@List.length_take
def Xp:=@PySem.wpAny_newObj_type
def Xq:=@PySem.F.type_list_append
def Xr:=@List.length_zipIdx
def Xs:=@beq_eq_false_iff_ne
def Xu:=@List.length_drop
def Xv:=@List.map_congr_left
def Xw:=@List.mem_append_left
def Xx:=@List.mem_zipIdx_iff_getElem?
def Xy:=@PySem.boot_len
def Xz:=@Array.getElem?_eq_some_iff
def XA:=@decide_eq_true_eq
def XD:=@beq_iff_eq
def XE:=@congrArg
def XF:=@List.nodup_cons
def XG:=@decide_eq_true_iff
def XH:=@List.mem_append_right
def XI:=@PySem.Paired.length
def XJ:=@List.append_nil
def XM:=@List.length_set
def XO:=@List.find?_cons
def XQ:=@List.find?_some
def XR:=@PySem.Heap.size_push
def XS:=@Nat.zero_add
def XT:=@of_decide_eq_true
def XU:=@Prod.mk.inj
def XW:=@List.filter_append
def XY:=@List.pairwise_cons
def XZ:=@List.mem_iff_getElem?
def X3:=@List.length_filter_le
def X4:=@List.findSome?_cons
def X5:=@PySem.wpAny_callSpecial?_slot
def X6:=@List.all_eq_true
def X7:=@List.any_eq_true
def X8:=@decide_eq_false_iff_not
def X9:=@Nat.lt_irrefl
def X_:=@PySem.F.slot_dict_keyiterator_next
def Yb:=@PySem.wpAny_call_entry
def Yc:=@List.append_assoc
def Yd:=@List.ext_getElem?
def Ye:=@Nat.sub_succ_lt_self
def Yg:=@PySem.F.slot_list_extend
def Yh:=@List.getD_eq_getElem?_getD
def Yi:=@Option.map_some
def Yj:=@List.getElem?_eq_none_iff
def Yk:=@PySem.wpAny_truthy_bool
def Yl:=@PySem.wpAny_field
def Ym:=@PySem.F.slot_dict_itemiterator_next
def Yn:=@List.any_cons
def Yo:=@Nat.min_eq_left
def Yp:=@PySem.wpAny_mono
def Yq:=@List.find?_eq_none
def Yr:=@List.length_eq_zero_iff
def Ys:=@PyProof.Rows.callWith_type1
def Yt:=@Ne.symm
def Yu:=@PySem.Heap.get?_update_other
def Yv:=@PySem.wpAny_loadPart_at
def Yw:=@List.takeWhile_cons_of_pos
def Yx:=@List.nodup_append
def Yy:=@PySem.W.mg_none_of
def Yz:=@Array.length_toList
def YB:=@List.flatMap_append
def YC:=@Sum.inl.inj
def YD:=@PySem.Obj.data_mapFields
def YF:=@PySem.wpAny_typeNameOfWhole_itemiter
def YG:=@PySem.F.type_list_extend
def YH:=@Nat.ne_of_gt
def YJ:=@Option.isSome_iff_exists
def YK:=@List.mem_range
def YM:=@PySem.wpAny_loadName_local
def YN:=@if_false
def YQ:=@List.nodup_nil
def YR:=@PySem.wpAny_typeNameOfWhole_keyiter
def YS:=@List.drop_drop
def YT:=@PySem.wpAny_dictEntries
def YV:=@Nat.add_sub_cancel_left
def YW:=@List.foldl_cons
def YX:=@List.filterMap_cons
def YY:=@PySem.wpAny_holding
def YZ:=@List.lookup_cons
def Y0:=@List.take_length
def Y3:=@PySem.wpAny_Call_Name_kw
def Y4:=@List.getElem?_append_right
def Y5:=@PySem.wpAny_setField
def Y6:=@PySem.Heap.get?_update_self
def Y7:=@List.contains_iff_mem
def Y8:=@List.getElem?_append_left
def Y9:=@PySem.wpAny_typeNameOf_itemiter
def Y_:=@PySem.wpAny_passesOwn
def Za:=@if_true
def Zb:=@PySem.wpAny_typeLookup_exc
def Zc:=@Bool.not_eq_true'
def Zd:=@List.all_cons
def Ze:=@PySem.wpAny_typeNameOf_keyiter
def Zf:=@PyProof.Rows.slot_tuple_getitem
def Zg:=@PySem.plainObj_wpAny_Assign_Attribute
def Zh:=@PySem.evalArgs_none
def Zi:=@PySem.Heap.SameBut.update
def Zj:=@List.length_reverse
def Zk:=@List.getElem?_cons_zero
def Zm:=@List.getLast?_eq_some_getLast
def Zn:=@Nat.le_of_lt
def Zo:=@PySem.Calls.callWith_builtin
def Zq:=@List.any_map
def Zr:=@PySem.tupleKind_room_in1
def Zt:=@Array.getElem?_eq_none
def Zu:=@PySem.wpAny_isOneOf_itemiter
def Zv:=@PySem.wpAny_setField_rec
def Zw:=@PySem.wpAny_execs_nil
def Zx:=@PySem.wpAny_dictEpoch
def Zy:=@PySem.Obj.isFreed_of_fields
def Zz:=@Bool.and_eq_false_iff
def ZC:=@List.filterMap_append
def ZD:=@PySem.wpAny_Call_method
def ZE:=@PySem.F.plainAttrs_dict
def ZF:=@List.foldl_append
def ZG:=@List.flatMap_cons
def ZH:=@PySem.Around.under_plainId
def ZI:=@PySem.wpAny_fieldsOf
def ZJ:=@List.takeWhile_cons_of_neg
def ZK:=@List.mem_erase_of_ne
def ZL:=@List.contains_eq_mem
def ZM:=@PySem.W.look_both
def ZN:=@Nat.lt_trans
def ZO:=@PySem.W.ns_none_of
def ZP:=@List.mem_flatMap
def ZQ:=@Nat.succ_mul
def ZR:=@List.drop_eq_getElem_cons
def ZS:=@PyProof.Rows.slot_tupleiter_next
def ZT:=@PySem.F.slot_list_getattribute
def ZU:=@Bool.true_and
def ZV:=@Bool.or_eq_true
def ZW:=@PySem.wpAny_loadPart'
def ZX:=@List.mem_filterMap
def ZY:=@PySem.Calls.spliced_cons
def Z0:=@Bool.false_eq_true
def Z1:=@PySem.F.slot_dict_values
def Z2:=@List.getElem?_drop
def Z3:=@List.Nodup.sublist
def Z4:=@List.getElem?_replicate
def Z5:=@List.pairwise_singleton
def Z6:=@List.findIdx?_eq_some_iff_getElem
def Z7:=@Nat.le_of_eq
def Z8:=@Prod.ext
def Z9:=@List.map_nil
def Z_:=@Nat.le_of_succ_le
def aac:=@Nat.lt_succ_of_lt
def aad:=@Option.isSome_map
def aae:=@Option.some.injEq
def aaf:=@PySem.F.slot_dict_items
def aag:=@PySem.wpAny_pyIter_enum
def aah:=@List.takeWhile_sublist
def aai:=@List.length_range
def aaj:=@List.pairwise_lt_range
def aak:=@PySem.F.args_dict_itemiterator_next_1
def aal:=@PySem.wpAny_notOrdered_dict
def aam:=@PySem.wpAny_Name
def aan:=@PySem.wpAny_execs_cons
def aao:=@Nat.lt_succ_self
def aap:=@Nat.min_le_right
def aaq:=@PySem.F.args_dict_keyiterator_next_1
def aar:=@PySem.F.entry_dict_itemiterator_next
def aas:=@PySem.wpAny_standAt
def aat:=@List.map_take
def aau:=@PySem.Calls.evalArgs_plain
def aav:=@PySem.F.entry_dict_keyiterator_next
def aaw:=@Bool.or_eq_false_iff
def aax:=@List.of_mem_zip
def aay:=@PySem.pushCells_keeps
def aaz:=@PySem.codeAny_builtin
def aaA:=@PySem.F.slot_dict_keyiterator_iter
def aaB:=@List.countP_eq_length_filter
def aaC:=@List.filter_sublist
def aaD:=@Int.toNat_of_nonneg
def aaE:=@List.reverse_append
def aaF:=@PySem.codeAny_mono
def aaG:=@PySem.wpAny_letOwnedTupleGo_items
def aaH:=@PySem.W.mg_of
def aaI:=@PySem.Calls.Name_function_global
def aaJ:=@Bool.false_and
def aaK:=@PySem.wpAny_newFunctionEnv_cells
def aaL:=@PySem.F.args_tuple_add_2
def aaM:=@PySem.call_meets
def aaN:=@Bool.and_false
def aaO:=@PySem.method_meetsIn
def aaP:=@PySem.wpAny_letOwnedTupleGo_enum
def aaQ:=@of_decide_eq_false
def aaR:=@List.drop_zero
def aaS:=@PySem.Calls.call_function_entry
def aaT:=@List.getLastD_eq_getLast?
def aaU:=@List.getElem?_zip_eq_some
def aaV:=@PySem.wpAny_pyIter_list
def aaW:=@PySem.Calls.spliced_nil
def aaX:=@Nat.le_succ
def aaY:=@List.take_sublist
def aaZ:=@PySem.F.entry_tuple_add
def aa0:=@PySem.wpAny_pyIter_slot
def aa1:=@List.find?_isSome
def aa2:=@Bool.false_or
def aa3:=@PySem.plainId_quiet
def aa4:=@PySem.wpAny_attempt
def aa5:=@List.sum_cons
def aa6:=@List.map_drop
def aa7:=@List.length_erase_of_mem
def aa8:=@List.append_cancel_right
def aa9:=@List.Pairwise.imp_of_mem
def aa_:=@PySem.noFill_tuple_add
def aa':=@PySem.F.slot_tuple_add
def abb:=@List.getElem?_cons_succ
def abd:=@PySem.pairTrees_length
def abe:=@List.drop_length
def abf:=@List.zipIdx_cons
def abg:=@PySem.W.callWith_K
def abh:=@Option.map_eq_some_iff
def abi:=@List.range_succ_eq_map
def abj:=@List.append_inj_right'
def abk:=@Int.ofNat_toNat
def abl:=@PySem.F.slot_dict_get
def abm:=@PySem.size_of_entries
def abn:=@Nat.le_antisymm
def abo:=@List.nil_append
def abp:=@List.filter_map
def abq:=@List.length_replicate
def abr:=@Array.getElem?_toList
def abt:=@List.append_inj_left'
def abu:=@List.forIn_nil
def abv:=@PySem.Paired.snoc
def abw:=@PySem.wpAny_seqItems
def abx:=@Nat.mul_le_mul_right
def aby:=@List.mem_of_mem_take
def abz:=@List.reverse_reverse
def abA:=@Bool.and_eq_true_iff
def abB:=@List.toList_toArray
def abC:=@List.drop_succ_cons
def abD:=@List.length_pos_iff
def abE:=@List.takeWhile_cons
def abF:=@List.dropWhile_cons
def abG:=@PySem.W.plainGet_of
def abH:=@PySem.seq_tuple_add
def abI:=@PySem.wpAny_handled
def abJ:=@Array.append_assoc
def abK:=@Array.find?_toList
def abL:=@PySem.typeIs_str
def abM:=@Option.isSome_some
def abN:=@List.contains_cons
def abO:=@List.all_takeWhile
def abP:=@List.zip_cons_cons
def abQ:=@Nat.lt_of_le_of_ne
def abR:=@bne_iff_ne
def abS:=@Nat.add_sub_of_le
def abT:=@Nat.le_succ_of_le
def abU:=@List.all_eq_false
def abV:=@List.filter_congr
def abW:=@Sum.inr.inj
def abX:=@Nat.sub_le
abbrev ah:=@List
abbrev ai:=PySem.Addr
abbrev ak:=PySem.Value
abbrev aq:=PySem.Shared
abbrev az:=@Option
abbrev aC:=String
abbrev b7:=PySem.Stmt
abbrev bx:=PySem.Expr
abbrev aX:=PySem.Heap
abbrev aU:=PySem.World
abbrev aS:=PySem.Program
abbrev bC:=PySem.Around
abbrev aV:=PySem.Obj
abbrev ay:=PySem.W.Frag
abbrev aB:=VauowBase.Row
abbrev aI:=Vauowc.State
namespace PySem.W.Fast
def tw15699788537556261169:=True
def tw13425269251664393748:=True
def tw15760372931779285773:=True
def tw10211896702957845043:=True
def tw79168275673694496:=True
def tw18394979656243111959:=True
def tw934957284617519890:=True
def tw4918194911917592367:=True
def tw1840198206913266458:=True
def tw7106180682584293066:=True
def tw3063766547256935957:=True
def tw9581266570363905240:=True
def tw15461919493861255096:=True
def tw3240506715716785592:=True
def tw17106838543382811567:=True
def tw7038128435667061235:=True
def tw2367719105710026868:=True
def tw12093032042702205780:=True
def tw18029323327898016839:=True
def tw1786587469713178758:=True
def tw11999468186299935458:=True
def tw7168910729812925530:=True
def tw10211143382257208697:=True
def tw9564236294685672535:=True
def tw8736479976448471545:=True
def tw4881277888680629699:=True
def tw17928215043881317423:=True
def tw4546844312966346493:=True
def tw1912088140097043899:=True
def tw565132873127781960:=True
def tw4928968180629725047:=True
def tw11366839177623524043:=True
def tw17765597363076175335:=True
def tw3395871232525539616:=True
def tw509860367784732387:=True
def tw6510643580946840818:=True
def tw16270223668501460668:=True
def tw14265349957945764742:=True
def tw8668873934958242768:=True
def tw1739293410240071445:=True
def tw14523738775969949164:=True
def tw978262161690504936:=True
def tw13714832761900002564:=True
def tw15753993281897604985:=True
def tw6799201655462210354:=True
def tw7046082772043146119:=True
def tw5544973182786781332:=True
def tw10671794062105898335:=True
def tw14034001872075573520:=True
def tw5104957515129264119:=True
def tw7146952402717984826:=True
def tw7030194174198806236:=True
def tw3774889374033112966:=True
def tw8357322695543739160:=True
def tw6222073235996881389:=True
def tw5294428359990978592:=True
def tw17534674342836821759:=True
def tw6821288836662538313:=True
def tw2994475751293054391:=True
def tw324011349581698573:=True
def tw250448592766666365:=True
def tw16915057053956141047:=True
def tw6656384862719627646:=True
def tw9219858135899887680:=True
def tw4881415539155404949:=True
def tw7012182735475725670:=True
def tw8854624941553585527:=True
def tw13698485970491918953:=True
def tw16973445497941461043:=True
def tw8191106207586954448:=True
def tw18307522404308370041:=True
def tw4533394237535086390:=True
def tw4514915376231844923:=True
def tw5291748339093792962:=True
def tw16569262825629221840:=True
def tw2615532468657687448:=True
def tw1207312788243999128:=True
def tw4681373234249247006:=True
def tw13735844412796879864:=True
def tw4014713354889673488:=True
def tw11695328123917120082:=True
def tw18433288629961236818:=True
def tw5074449039384353504:=True
def tw14062517428141389071:=True
def tw3584716170682895567:=True
def tw16010458077672955091:=True
def tw4777552772785720859:=True
def tw9336619972772053355:=True
def tw10889570581934863489:=True
def tw6322516178422072494:=True
def tw15999137552002255640:=True
def tw16349309746158978874:=True
def tw6543257553767233115:=True
def tw14388814506407741537:=True
def tw3907621262014182050:=True
def tw14240340623821084097:=True
def tw11754228779918244546:=True
def tw6242278899331775795:=True
def tw15164121613998873195:=True
def tw8461319182073279746:=True
def tw10605729323477001790:=True
def tw7617741389575014127:=True
def tw15465190002385080686:=True
def tw7713469717663391921:=True
def tw17171070339292793248:=True
def tw9166729489778413374:=True
def tw8032140372935676015:=True
def tw15795198092353410225:=True
def tw5316785818778621817:=True
def tw2574766842860093534:=True
def tw11694743211575520959:=True
def tw11572984031536662496:=True
def tw11855274527890342121:=True
def tw8865220555556431035:=True
def tw18087439983830979488:=True
def tw7971649350623599954:=True
def tw13388612841004104710:=True
def tw13709545255586024169:=True
def tw13238381125615433993:=True
def tw1021288429585074838:=True
def tw10580543536510671365:=True
def tw8991901309611268864:=True
def tw12856051602232167858:=True
def tw17446477648954020180:=True
def tw15641712954516053801:=True
def tw2966796617934497421:=True
def tw5649849605517375829:=True
def tw6202220633396465095:=True
def tw10025018895331995803:=True
def tw7592465446304124754:=True
def tw4507675179527345081:=True
def tw7940291079242400288:=True
def tw1918218933944891988:=True
def tw18388989964451388689:=True
def tw16949368766466086168:=True
def tw12233821072281567027:=True
def tw9124958403647520869:=True
def tw11043278996925017781:=True
def tw11067358203163037121:=True
def tw6315353152240808870:=True
def tw2225878488577042356:=True
def tw11084843176266826052:=True
def tw293984464905399786:=True
def tw13664051449592542705:=True
def tw6001550703767249296:=True
def tw15406981499462726473:=True
def tw15547109202695295320:=True
def tw13259776604307620606:=True
def tw11787684756666694147:=True
def tw5569956996231608387:=True
def tw335941030629251382:=True
def tw14616498516708540160:=True
def tw17867939512027110556:=True
def tw8851275183362085919:=True
def tw2842327061071068997:=True
def tw17542541387287688759:=True
def tw13923819170653402506:=True
def tw17318473353345744449:=True
def tw10191407989452443704:=True
def tw4460702043954036054:=True
def tw17597295789519783841:=True
def tw6565566428047381559:=True
def tw9709555706188055060:=True
def tw4472481528370712929:=True
def tw2198896889733359074:=True
def tw14576946445716362073:=True
def tw3358976902533460292:=True
def tw6063248220393591715:=True
def tw9155913586700428108:=True
def tw8557427347643116080:=True
def tw1660810487553033867:=True
def tw9582056493877400849:=True
def tw7416141277806552104:=True
def tw11223281594715354481:=True
def tw2545050283871934023:=True
def tw18005813450225792883:=True
def tw10535156740607072402:=True
def tw4033796760613060550:=True
def tw11817003707096894783:=True
def tw13626455774788347071:=True
def tw18402813696997856696:=True
def tw10126792902590330591:=True
def tw5751611867456051355:=True
def tw8337087215918920332:=True
def tw8229926466177576333:=True
def tw415434229114798337:=True
def tw4545091361120361735:=True
def tw12892994873683946911:=True
def tw7214164529412412866:=True
def tw13832238255560169759:=True
def tw18024823243921085389:=True
def tw5483169836650614294:=True
def tw6496096585814283659:=True
def tw8238957581757143913:=True
def tw17973513687751242564:=True
def tw6675695014187694533:=True
def tw2707994227985004392:=True
def tw18082381992268435417:=True
def tw4932394841162181949:=True
def tw9314672676428213840:=True
def tw6945313897938910089:=True
def tw17646588014728269727:=True
def tw16683445903144950421:=True
def tw17765360531034690794:=True
def tw1341799415378533866:=True
def tw6307081856693517131:=True
def tw11238493471394347744:=True
def tw1839913186316373338:=True
def tw1265907710055597172:=True
def tw17662155800806063617:=True
def tw5887622294410610505:=True
def tw1467096754422386603:=True
def tw9039440642562743023:=True
def tw9187946735862495727:=True
def tw12997939622675241419:=True
def tw2938342818450084565:=True
def tw3199433386553695889:=True
def tw14369713000532077011:=True
def tw5550797136990754070:=True
def tw6521559502827590710:=True
def tw14453953976053913183:=True
def tw125762827562682593:=True
def tw8513476204941519254:=True
def tw14346516469740067004:=True
def tw6284128134446693452:=True
def tw17850885233400577466:=True
def tw566763880847078886:=True
def tw9678030211650916303:=True
def tw14148511935712783270:=True
def tw4577420556834477165:=True
def tw2394207590870639330:=True
def tw7220030316943403768:=True
def tw11804509954176822250:=True
def tw7516536097209164389:=True
def tw3296732345403606735:=True
def tw17569018398802038196:=True
def tw16607427072200493610:=True
def tw9767779412595648513:=True
def tw7513323542022391214:=True
def tw14761632181928753671:=True
def tw2369767900101182228:=True
def tw13608531114088158184:=True
def tw1056531534565114125:=True
def tw954922838850015216:=True
def tw8355023977256704206:=True
def tw9840088485390431777:=True
def tw16972692064218218536:=True
def tw14755742477163767808:=True
def tw16616870989119656534:=True
def tw7424995241661876448:=True
def tw8352257730605115065:=True
def tw4784645241481182397:=True
def tw12476021460111466347:=True
def tw5369799872132034175:=True
def tw5081132836913595453:=True
def tw1592048024800179277:=True
def tw8831922585351580337:=True
def tw788106514765531418:=True
def tw4059027876856764973:=True
def tw14947231910513329072:=True
def tw13033802793362194690:=True
def tw12228308083736726532:=True
def tw5513266719979867934:=True
def tw7862135932700403912:=True
def tw16290161644618135271:=True
def tw1485672859470388040:=True
def tw11269569674222690185:=True
def tw8113022538461555686:=True
def tw10279318843847660964:=True
def tw8332977544381052840:=True
def tw2811271092703657063:=True
def tw13980938881069790169:=True
def tw7364580196418911914:=True
def tw2058509676055019135:=True
def tw8851898335172992412:=True
def tw11561815045410856578:=True
def tw15332785373336167630:=True
def tw7423360452697273659:=True
def tw14489322227137184372:=True
def tw3319017967290584898:=True
def tw10771722475042196044:=True
def tw4122073322787235058:=True
def tw12888972185012975930:=True
def tw1961030526941374884:=True
def tw11189569323678644522:=True
def tw11254075953757288989:=True
def tw5840426325247069541:=True
def tw6873099314936310607:=True
def tw2820451627963845893:=True
def tw9037201671393317426:=True
def tw10264448383373717003:=True
def tw9147104647867377811:=True
def tw3806976873692991967:=True
def tw17592075727273246892:=True
def tw9367741271390681781:=True
def tw10702653116666707621:=True
def tw11928108293675005601:=True
def tw3110948872122594743:=True
def tw12813100733213927036:=True
def tw376090206535809424:=True
def tw17914085871093752074:=True
def tw3439150771418338799:=True
def tw9680456872030720084:=True
def tw14724851753590235489:=True
def tw15391842486711049526:=True
def tw17757017944290541565:=True
def tw14111522191095676583:=True
def tw17644241726354982128:=True
def tw2378676781163145701:=True
def tw12222982166382972703:=True
def tw2256604046400475405:=True
def tw3288988464598511861:=True
def tw4102910055748997179:=True
def tw16548533916748872169:=True
def tw6323784298965366448:=True
def tw10077895622411846692:=True
def tw18182493968225850227:=True
def tw10943127530256910920:=True
def tw14163522214365419689:=True
def tw13939562372383607733:=True
def tw13619590318881177967:=True
def tw16435023780305754742:=True
def tw4067232902155077713:=True
def tw2364652295948122470:=True
def tw15127647379916793751:=True
def tw14448117942571870910:=True
def tw730673434732930036:=True
def tw15380577057159631759:=True
def tw14999064394439223805:=True
def tw14377026549679591869:=True
def tw1631167774635194702:=True
def tw6056911488668411392:=True
def tw2258455637113928604:=True
def tw3769051097136645108:=True
def tw4582474570671091548:=True
def tw1190629151090304954:=True
def tw6167703296126448090:=True
def tw3123000195654126083:=True
def tw13873441244795393911:=True
def tw11242463389204767060:=True
def tw621903638591058323:=True
def tw7887983700434424613:=True
def tw8297501208983732808:=True
def tw4279603725583521325:=True
def tw2825655762510839207:=True
def tw5391440812688938412:=True
def tw7670574292582721060:=True
def tw9198813188375617676:=True
def tw15044427727945854188:=True
def tw4653911242177946077:=True
def tw10647258535009560707:=True
def tw7477350715737420294:=True
def tw5334882958387826274:=True
def tw257204374984325270:=True
def tw8313127634333640794:=True
def tw8663013104898267648:=True
def tw13801431256360131296:=True
def tw6833099560881701536:=True
def tw10819576294905892492:=True
def tw11878183774833507051:=True
def tw8904691235139983595:=True
def tw1447038299760074326:=True
def tw9097945241437459140:=True
def tw3417731395068330011:=True
def tw3532742741125328941:=True
def tw8850661937123472847:=True
def tw14678169956201496206:=True
def tw6843867137419177871:=True
def tw4654685838378434910:=True
def tw17553431141713603462:=True
def tw17385949088168038824:=True
def tw7401913875010595501:=True
def tw2401801193633592233:=True
def tw11731760047440528691:=True
def tw15367710080163650619:=True
def tw14144257174153567775:=True
def tw1096113767933862795:=True
def tw17184278755430278222:=True
def tw6190272259017351586:=True
def tw14843246763271434457:=True
def tw4791466017697788537:=True
def tw17403294339553481304:=True
def tw8469401551519138248:=True
def tw9430955695348096661:=True
def tw16675746281119968322:=True
def tw7187814681093362402:=True
def tw17638517790219856248:=True
def tw14711490389187943843:=True
def tw512119679287474234:=True
def tw12612660719529247036:=True
def tw7005406890320449038:=True
def tw14980044892643455200:=True
def tw16805918024908022065:=True
def tw14767072463371834038:=True
def tw17104727167625738651:=True
def tw8354667345409170405:=True
def tw5567517687343080279:=True
def tw14898077962276406298:=True
def tw7447463387067907216:=True
def tw18351313951322545015:=True
def tw84369557367802653:=True
def tw1935670369192153489:=True
def tw17048337767896935398:=True
def tw15661010699490036013:=True
def tw14626471065921812900:=True
def tw5295794223908534678:=True
def tw14090915822614826377:=True
def tw11018854332650829545:=True
def tw4521227059366775670:=True
def tw10113474671291430376:=True
def tw10336481617225763459:=True
def tw16519523370672350933:=True
def tw17171476578385908296:=True
def tw16448136581383296149:=True
def tw9486079850752147472:=True
def tw12191735385692169543:=True
def tw12461407520663314219:=True
def tw14950582075958339632:=True
def tw5214802398310922568:=True
def tw17627023659063847886:=True
def tw11056837556370573269:=True
def tw14396524862532285676:=True
def tw5049798546558525377:=True
def tw16672129998202853660:=True
def tw2962682540458758446:=True
def tw7211731393719228196:=True
def tw6329543858706168092:=True
def tw4903717381255229268:=True
def tw9322103114583390080:=True
def tw7072879954047112042:=True
def tw12750160439398853035:=True
def tw13777655545970018310:=True
def tw9273970797931722146:=True
def tw13628172090651053834:=True
def tw4441620818302535521:=True
def tw10216066592468667956:=True
def tw15105945605668790168:=True
def tw142324084852187851:=True
def tw14603650510409092550:=True
def tw6789135636988792716:=True
def tw5104441100341948854:=True
def tw7771079129336296440:=True
def tw7631094496829955037:=True
def tw7014724381891679062:=True
def tw12919574161218911622:=True
def tw9453682948973731940:=True
def tw2201107493492731209:=True
def tw8730044683379458893:=True
def tw2179509367581270914:=True
def tw6113608170173041598:=True
def tw9073732331720063577:=True
def tw9718362791489420979:=True
def tw9748331291747475852:=True
def tw13960568401441707094:=True
def tw2503920600700847445:=True
def tw6545638207493734059:=True
def tw17373553039570647092:=True
def tw17796512973458507060:=True
def tw11617069255217316919:=True
def tw14263880727863644020:=True
def tw12642676687746770151:=True
def tw15183178738930811761:=True
def tw8591401227292932561:=True
def tw13866624792783774358:=True
def tw15469402964030390369:=True
def tw17345137168548364830:=True
def tw6138168504502662623:=True
def tw16588158524559824900:=True
def tw9712469344066811099:=True
def tw3930272143725731205:=True
def tw11726232497819930321:=True
def tw14675169053257340478:=True
def tw2606494830705700875:=True
def tw10616318287149195131:=True
def tw15176119198229754554:=True
def tw12169787981248388371:=True
def tw296438737942440041:=True
def tw4310010715137235870:=True
def tw4029330703335473142:=True
def tw5675749242516922356:=True
def tw10825574647094180633:=True
def tw1071966619618332427:=True
def tw18339507341668134579:=True
def tw4003139398277798150:=True
def tw3452388201262517043:=True
def tw12721235821672659309:=True
def tw6781857837731208132:=True
def tw10014714306531167310:=True
def tw8051993314222443187:=True
def tw15419030436480127293:=True
def tw11343285424755871503:=True
def tw15866540965455000101:=True
def tw11162308049123869894:=True
def tw8983205426903567945:=True
def tw6828892482366094713:=True
def tw17917688449536474137:=True
def tw18202876850682282890:=True
def tw17430712196321140673:=True
def tw16813730450730130409:=True
def tw4599853244568501197:=True
def tw5351758773362356814:=True
def tw16980350578606820823:=True
def tw1772107903329244808:=True
def tw10240553306000727147:=True
def tw14720914061149995663:=True
def tw16160990310778320725:=True
end PySem.W.Fast
theorem UK:PySem.Challenge.rw_objectsessions_s01_answers.wellSaid=true:=by
 open PySem.W in show ZM (ZM (ZM (ZM (ZM (ZM (ZM (ZM (ZM (ZM ?_ ?_) ?_) ?_) ?_) ?_) ?_) ?_) ?_) ?_) ?_<;>first|k_qdec|decide+kernel
theorem cL(a:True:=by assumption)(g:True:=by first|show .inl rfl|show .inr rfl|assumption)(i:True:=by decide)(j:True:=by first|show QZ _ (by decide) (by decide)|rfl)(k:True:=by intro _;rfl)(l:True:=by rfl)(m:True:=by first|show Or.inl rfl|show Or.inr rfl)(n:True:=by with_unfolding_all rfl)(o:True:=by show λ_ _=>rfl)(b:True:=by first|show Or.inl rfl|show Or.inr (Or.inl rfl)|show Or.inr (Or.inr rfl))(c:True:=by change _=_;kernel_rfl)(d:True:=by intro vs H Q E h;cases h;show XE List.length ‹vs=_›)(e:True:=by kernel_rfl)(f:True:=by(repeat intro _);change _=_;kernel_rfl):True:=a
noncomputable section
section
open PySem PySem.Spec PyProof.Rows
namespace L2
inductive V where
 |non|bl (b:Bool)|int (i:Int)|str (x:Str)|Fq (b:Array UInt8)|Sw (b:UInt64)|ref (a:ai)|ty (n:aC)
 deriving DecidableEq
def RelV:V->ak->Prop
 | .non,u=>u=Value.none
 | .bl b,u=>u=Value.bool b
 | .int i,u=>∃t,u=Value.int i t
 | .str x,u=>∃t,u=Value.str x t
 | .Fq b,u=>∃t,u=Value.bytes b t
 | .Sw b,u=>∃t,u=Value.float b t
 | .ref a,u=>u=Value.ref a
 | .ty n,u=>u=Value.type n
abbrev bW:ah V->ah ak->Prop:=Paired RelV
def bO(K:ay)(C:ai)(f:Str):Prop:=W.findIn K (.ref C) f=some none
noncomputable def dP (s:b7) (j:Nat):Stmt:=match s with
 | .ClassDef _ _ _ a _ _ _ _ _ _ _=>a.getD j (.Pass ⟨0,0,0,0⟩)
 |_=> .Pass ⟨0,0,0,0⟩
def j8(s:b7):Arguments:=match s with
 | .FunctionDef _ a _ _ _ _ _ _ _ _=>a
 |_=>{posonlyargs:=[],args:=[],vararg:=none,kwonlyargs:=[],kw_defaults:=[],kwarg:=none,defaults:=[]}
def fy(s:b7):ah Stmt:=match s with
 | .FunctionDef _ _ b _ _ _ _ _ _ _=>b
 |_=>[]
def bD(s:b7):Scope:=match s with
 | .FunctionDef _ _ _ _ _ _ sc _ _ _=>sc
 |_=>{kind:= .function,names:=[],isGenerator:=false,isCoroutine:=false}
end L2
abbrev XL.j9:ah Value:=[.type "Exception",.type "BaseException",.type "object"]
namespace DL
open L2 XL
def top(i:Nat):Stmt:=PySem.Challenge.pw_objectsessions_s01_answers.main.body.getD i (.Pass ⟨0,0,0,0⟩)
abbrev Fw:Stmt:=top 7
abbrev rP:Stmt:=top 8
abbrev pq:Stmt:=top 9
abbrev wo:Stmt:=top 10
abbrev kR:Stmt:=dP (top 37) 0
abbrev pS:Stmt:=top 38
abbrev A9:Stmt:=top 39
abbrev wu:Stmt:=top 40
abbrev J4:Stmt:=top 41
abbrev IU:Stmt:=top 42
abbrev CJ:Stmt:=top 43
abbrev Fx:Stmt:=top 44
abbrev J5:Stmt:=top 45
abbrev j_:Stmt:=dP (top 46) 0
abbrev mO:Stmt:=dP (top 46) 1
abbrev oH:Stmt:=dP (top 46) 2
abbrev oJ:Stmt:=dP (top 46) 3
abbrev kT:Stmt:=dP (top 46) 4
abbrev oK:Stmt:=dP (top 46) 5
abbrev jL:Stmt:=dP (top 46) 6
abbrev gW:Stmt:=dP (top 46) 7
abbrev jb:Stmt:=dP (top 46) 8
abbrev kg:Stmt:=dP (top 55) 0
abbrev jM:Stmt:=dP (top 56) 0
abbrev A_:Stmt:=top 57
abbrev tW:Stmt:=top 58
abbrev wz:Stmt:=top 59
abbrev mG:Stmt:=top 60
abbrev tX:Stmt:=top 61
abbrev wA:Stmt:=top 62
abbrev pT:Stmt:=top 63
abbrev oM:Stmt:=top 64
abbrev Fy:Stmt:=top 72
abbrev jc:Stmt:=top 73
abbrev tY:Stmt:=top 74
abbrev rQ:Stmt:=top 75
abbrev ow:Stmt:=top 76
abbrev oN:Stmt:=top 77
abbrev wB:Stmt:=top 78
abbrev tZ:Stmt:=top 79
abbrev CK:Stmt:=top 80
abbrev oO:Stmt:=top 81
abbrev Fz:Stmt:=top 82
abbrev Ba:Stmt:=top 83
abbrev mq:Stmt:=dP (top 85) 0
abbrev t7:Stmt:=top 86
abbrev CL:Stmt:=top 87
abbrev Bb:Stmt:=top 88
abbrev qJ:Stmt:=top 89
abbrev z9:Stmt:=top 90
abbrev jN:Stmt:=dP (top 97) 0
abbrev mP:Stmt:=dP (top 97) 1
abbrev kh:Stmt:=dP (top 97) 2
abbrev kU:Stmt:=dP (top 97) 3
abbrev mw:Stmt:=dP (top 97) 4
abbrev t8:Stmt:=top 98
abbrev sJ:Stmt:=top 99
abbrev sL:Stmt:=top 100
abbrev wC:Stmt:=top 101
abbrev Bc:Stmt:=top 108
abbrev IV:Stmt:=top 109
abbrev Bd:Stmt:=top 110
abbrev wD:Stmt:=top 111
abbrev CM:Stmt:=top 112
abbrev sM:Stmt:=top 113
abbrev CN:Stmt:=top 114
abbrev Be:Stmt:=top 115
abbrev Bf:Stmt:=top 116
abbrev qK:Stmt:=top 117
abbrev CP:Stmt:=top 118
abbrev mQ:Stmt:=top 119
abbrev kK:Stmt:=top 121
abbrev Bg:Stmt:=top 122
abbrev CQ:Stmt:=top 123
abbrev qL:Stmt:=top 124
abbrev rR:Stmt:=top 125
abbrev ki:Stmt:=top 133
abbrev wF:Stmt:=top 134
abbrev O3:Stmt:=top 135
abbrev CV:Stmt:=top 136
abbrev CW:Stmt:=top 137
abbrev t9:Stmt:=top 138
abbrev CY:Stmt:=top 139
abbrev FD:Stmt:=top 141
abbrev CZ:Stmt:=top 142
abbrev FE:Stmt:=top 143
abbrev Bh:Stmt:=top 144
abbrev t_:Stmt:=top 145
abbrev wG:Stmt:=top 146
abbrev wH:Stmt:=top 151
abbrev pU:Stmt:=top 152
abbrev qM:Stmt:=top 153
abbrev wI:Stmt:=top 154
abbrev kW:Stmt:=top 155
inductive FnAt(K:ay)(x a:Str)(st:b7)(f:ai):Prop
 |mk (g:ak) (h c:az ai) (i:Array (az ak)) (kV e j b d:ak) (_:K.lookup f=some ⟨g,h,.func (W.fnOf x a (j8 st) (fy st) (bD st) .none kV e j c b d),i⟩) (_:W.codeIn K b a=true) (_:W.keepIn K (.ref f)=true):FnAt K x a st f
inductive bM(K:ay)(x:Str)(st:b7):Prop
 |mk (f) (_:W.nsIn K mainGlobals x=some (some (.ref f))) (_:FnAt K x x st f):bM K x st
inductive cI(K:ay)(C:ai)(m a:Str)(st:b7):Prop
 |mk (f) (_:W.findIn K (.ref C) m=some (some (.ref f))) (_:W.isFn K (.ref f)=true) (_:FnAt K m a st f):cI K C m a st
structure ClsAt(K:ay)(x:Str)(C:ai):Prop where
 ns:W.nsIn K mainGlobals x=some (some (.ref C))
 pg:W.plainGet K C Str.empty=true
 hd:W.hasDictIn K C=true
 po:W.plainOver K C=true
 sa:W.findIn K (.ref C) "__setattr__" =some (some (.builtin "object.__setattr__"))
 VH:W.makesIn K C=true
 kp:W.keepIn K (.ref C)=true
structure Q0(K:ay):Prop where
 FG:bM K "standing" Fw
 C0:bM K "differing" rP
 pA:bM K "changes_of_table" pq
 wJ:bM K "all_changes" wo
 Bj:bM K "plain_text" pS
 Bk:bM K "remark_end" A9
 wK:bM K "skip_blanks" wu
 J6:bM K "run_at" J4
 IW:bM K "word_at" IU
 C1:bM K "number_at" CJ
 FH:bM K "token_at" Fx
 J7:bM K "reject" J5
 Bl:bM K "read_range" A_
 uc:bM K "read_removal" tW
 wL:bM K "read_column" wz
 mH:bM K "refuse_fifth_column" mG
 ud:bM K "read_columns" tX
 wM:bM K "read_tables" wA
 pV:bM K "settle_mentions" pT
 wN:bM K "read_schema" oM
 FI:bM K "is_value" Fy
 mR:bM K "rows_are_well_made" jc
 FJ:bM K "cut_rows" tY
 C2:bM K "read_rows" rQ
 oz:bM K "reference_is_good" ow
 wO:bM K "is_repeated" oN
 wQ:bM K "broken_rule" wB
 ue:bM K "first_broken" tZ
 J8:bM K "having" CK
 wR:bM K "copy_tables" oO
 FL:bM K "with_row" Fz
 Bm:bM K "with_value" Ba
 uf:bM K "links_of_row" t7
 C3:bM K "all_links" CL
 Bo:bM K "going_with" Bb
 qN:bM K "first_refusing" qJ
 IX:bM K "without" z9
 ug:bM K "refuse_table" t8
 sN:bM K "refuse_object" sJ
 sO:bM K "refuse_column" sL
 wU:bM K "refuse_list" wC
 Bp:bM K "can_be_set" Bc
 IY:bM K "is_full" IV
 Bq:bM K "refuse_new" Bd
 wV:bM K "make_object" wD
 C4:bM K "set_value" CM
 sP:bM K "remove_object" sM
 C5:bM K "as_loaded" CN
 Br:bM K "load_again" Be
 Bs:bM K "bring_back" Bf
 qO:bM K "refresh_object" qK
 C6:bM K "with_list" CP
 C7:bM K "make_list" mQ
 wW:bM K "new_objects" kK
 Bt:bM K "least_free" Bg
 C8:bM K "make_keys" CQ
 qP:bM K "value_with_key" qL
 C9:bM K "with_keys" rR
 C_:bM K "load_text" ki
 wX:bM K "fill_tables" wF
 O4:bM K "move" O3
 Dc:bM K "undo_deed" CV
 Dd:bM K "redo_deed" CW
 uh:bM K "flush_tables" t9
 De:bM K "roll_back" CY
 FN:bM K "tell_set" FD
 Df:bM K "tell_list" CZ
 FP:bM K "tell_row" FE
 Bu:bM K "tell_found" Bh
 um:bM K "tell_changes" t_
 wY:bM K "tell_tables" wG
 wZ:bM K "answer_deed" wH
 pW:bM K "answer_question" pU
 qQ:bM K "answer_holding" qM
 w4:bM K "answer_call" wI
noncomputable def mS:ah (Int×aC×Nat×Bool):=[(0,"load",0,true),(1,"fill",0,true),(2,"new",1,true),(3,"set",4,false),(4,"remove",2,false),(5,"back",2,false),(6,"list",4,false),(7,"relist",4,true),(8,"row",2,false),(9,"find",3,false),(10,"changed",0,false),(11,"refresh",2,false),(12,"undo",0,false),(13,"redo",0,false),(14,"flush",0,false),(15,"rollback",0,false),(16,"tables",0,false)]
inductive cu(K:ay)(x:Str)(z:Int):Prop
 |mk (t) (_:W.nsIn K mainGlobals x=some (some (.int z t))):cu K x z
inductive jd(K:ay)(x:Str)(z:Str):Prop
 |mk (t) (_:W.nsIn K mainGlobals x=some (some (.str z t))):jd K x z
inductive TupAt(K:ay)(b:ai)(c:ah V):Prop
 |mk (d:az ai) (a:ah ak) (n:Nat) (e:Array (az ak)) (_:K.lookup b=some ⟨.type "tuple",d,.seq a.toArray n,e⟩) (_:a.length<=1000) (_:bW c a):TupAt K b c
def Bv(z:Int×Int×PySem.Tok×ai):DictEntry:=⟨z.2.1,.int z.1 z.2.2.1,.ref z.2.2.2⟩
inductive S9(K:ay)(a:ai):Prop
 |mk (L:ah (Int×Int×PySem.Tok×ai)) (b:Nat) (_:K.lookup a=some ⟨.type "dict",none,.dict (L.map Bv).toArray b,#[]⟩) (_:L.map (λz=>(z.1,z.2.1))=mS.map λz=>(z.1,hashInt z.1)) (_:Paired (λz y=>TupAt K y.2.2.2 [.str z.2.1,.int (z.2.2.1:Int),.bl z.2.2.2]) mS L):S9 K a
abbrev Hq:Stmt:=dP (top 36) 0
inductive MR(K:ay)(C:ai):Prop
 |mk (N a:ai) (nm q bs sn sub ab col dd k0 k1 k2 k3 k5) (_:K.lookup C=some (excClassObj nm q C N bs j9 true sn sub ab col dd k0 k1 k2 k3 k5 "Exception.__new__")) (_:(∃(c:ak)(d:az ai)(b:Array DictEntry)(n:Nat)(f:Array (az ak)),K.lookup N=some ⟨c,d,.dict b n,f⟩/\(b.all λe=>match e.key with| .str _ _=>true|_=>false)=true)) (_:W.nsIn K N "__init__" =some (some (.ref a))) (_:W.nsIn K N "__setattr__" =some none) (_:W.nsIn K N "__getattribute__" =some none) (_:W.nsIn K N "__getattr__" =some none) (_:W.nsIn K N "kind" =some none) (_:W.nsIn K N "place" =some none) (_:W.isFn K (.ref a)=true) (_:FnAt K "__init__" "TextFault.__init__" Hq a) (_:W.keepIn K (.ref C)=true):MR K C
inductive Dg(K:ay):Prop
 |mk (C) (_:ClsAt K "Token" C) (_:bO K C "kind") (_:bO K C "text") (_:bO K C "place") (_:cI K C "__init__" "Token.__init__" kR):Dg K
inductive z_(K:ay):Prop
 |mk (C) (_:ClsAt K "Reader" C) (_:bO K C "text") (_:bO K C "place") (_:cI K C "__init__" "Reader.__init__" j_) (_:cI K C "ahead" "Reader.ahead" mO) (_:cI K C "look" "Reader.look" oH) (_:cI K C "take" "Reader.take" oJ) (_:cI K C "accepts" "Reader.accepts" kT) (_:cI K C "want" "Reader.want" oK) (_:cI K C "take_name" "Reader.take_name" jL) (_:cI K C "take_new_name" "Reader.take_new_name" gW) (_:cI K C "take_number" "Reader.take_number" jb):z_ K
inductive Aa(K:ay):Prop
 |mk (C) (_:ClsAt K "Column" C) (_:bO K C "low") (_:bO K C "high") (_:bO K C "target") (_:bO K C "optional") (_:bO K C "removal") (_:bO K C "unique") (_:cI K C "__init__" "Column.__init__" kg):Aa K
inductive uo(K:ay):Prop
 |mk (C) (_:ClsAt K "Mention" C) (_:bO K C "column") (_:bO K C "name") (_:bO K C "place") (_:cI K C "__init__" "Mention.__init__" jM):uo K
inductive Hr(K:ay):Prop
 |mk (C) (_:ClsAt K "Link" C) (_:bO K C "table") (_:bO K C "number") (_:bO K C "index") (_:bO K C "removal") (_:bO K C "holder") (_:bO K C "goal") (_:cI K C "__init__" "Link.__init__" mq):Hr K
inductive uq(K:ay):Prop
 |mk (C) (_:ClsAt K "Session" C) (_:bO K C "schema") (_:bO K C "loaded") (_:bO K C "now") (_:bO K C "made") (_:bO K C "past") (_:bO K C "undone") (_:cI K C "__init__" "Session.__init__" jN) (_:cI K C "hold" "Session.hold" mP) (_:cI K C "present" "Session.present" kh) (_:cI K C "change" "Session.change" kU) (_:cI K C "go_to" "Session.go_to" mw):uq K
inductive UL(K:ay):Prop
 |mk (_:W.nsIn K mainGlobals "len" =some none) (_:W.nsIn K mainGlobals "ord" =some none) (_:W.nsIn K mainGlobals "int" =some none) (_:W.nsIn K mainGlobals "all" =some none) (_:W.nsIn K mainGlobals "any" =some none) (_:W.nsIn K mainGlobals "sum" =some none) (_:W.nsIn K mainGlobals "sorted" =some none) (_:W.nsIn K mainGlobals "list" =some none) (_:W.nsIn K mainGlobals "tuple" =some none) (_:W.nsIn K mainGlobals "dict" =some none) (_:W.nsIn K mainGlobals "range" =some none) (_:W.nsIn K mainGlobals "enumerate" =some none):UL K
inductive UM(K:ay):Prop
 |mk (_:cu K "AS_LOADED" (0)) (_:cu K "IS_NEW" (1)) (_:cu K "IS_CHANGED" (2)) (_:cu K "CHANGE_NEW" (0)) (_:cu K "CHANGE_VALUES" (1)) (_:cu K "CHANGE_GONE" (2)) (_:cu K "CARRIAGE_RETURN" (13)) (_:cu K "MOST_WORD_BYTES" (12)) (_:cu K "MOST_DIGITS" (7)) (_:cu K "MOST_NUMBER" (1000000)) (_:cu K "NO_TOKEN" (1)) (_:cu K "BAD_TOKEN" (2)) (_:cu K "CANNOT_STAND" (3)) (_:cu K "ENDS_EARLY" (4)) (_:cu K "TOO_MANY" (5)) (_:cu K "NAME_TAKEN" (6)) (_:cu K "NO_SUCH_TABLE" (7)) (_:cu K "CANNOT_HOLD" (8)) (_:cu K "MOST_TABLES" (4)) (_:cu K "MOST_COLUMNS" (4)) (_:cu K "LEAST_VALUE" (-1000000)) (_:cu K "MOST_VALUE" (1000000)) (_:cu K "MOST_ROWS" (8)) (_:cu K "LEAST_ID" (1)) (_:cu K "MOST_ID" (99)) (_:cu K "OUT_OF_RANGE" (2)) (_:cu K "BAD_REFERENCE" (3)) (_:cu K "NOT_UNIQUE" (4)) (_:cu K "NO_TABLE" (-3)) (_:cu K "NO_OBJECT" (-5)) (_:cu K "NO_COLUMN" (-7)) (_:cu K "NOT_TO_TABLE" (-8)) (_:cu K "MOST_KEPT" (10)) (_:cu K "TABLE_FULL" (-6)) (_:cu K "TOO_MANY_MADE" (-10)) (_:cu K "NOT_IN_OTHER" (-12)) (_:cu K "FIRST_NEW" (100)) (_:cu K "MOST_NEW" (60)) (_:cu K "NO_BYTE" (-1)) (_:cu K "TEXT_TOO_LONG" (-2)) (_:cu K "NOT_ROWS" (-4)) (_:cu K "NOTHING_KEPT" (-9)) (_:cu K "MOST_BYTE" (255)) (_:cu K "MOST_TEXT" (4096)):UM K
inductive UN(K:ay):Prop
 |mk (_:jd K "LETTERS" "abcdefghijklmnopqrstuvwxyz") (_:jd K "DIGITS" "0123456789") (_:jd K "WORD_SIGNS" "abcdefghijklmnopqrstuvwxyz0123456789_") (_:jd K "SIGNS" "-:;{}") (_:jd K "BLANKS" " \t\n") (_:jd K "REMARK" "#") (_:jd K "UNKNOWN" "?") (_:jd K "WORD" "word") (_:jd K "NUMBER" "number") (_:jd K "SIGN" "sign") (_:jd K "END" "end") (_:jd K "REFUSE" "refuse") (_:jd K "CASCADE" "cascade") (_:jd K "CLEAR" "clear"):UN K
structure Top(K:ay):Prop where
 xf:∃CT,W.nsIn K mainGlobals "TextFault" =some (some (.ref CT))/\MR K CT
 b8:Dg K
 bE:z_ K
 bL:Aa K
 dc:uo K
 cK:Hr K
 aH:uq K
 bu:UL K
 ci:UM K
 cs:UN K
 fJ:∃a,W.nsIn K mainGlobals "RESERVED" =some (some (.ref a))/\TupAt K a [.str "table",.str "number",.str "from",.str "to",.str "ref",.str "none",.str "cascade",.str "clear",.str "unique"]
 kj:∃a,W.nsIn K mainGlobals "DEEDS" =some (some (.ref a))/\TupAt K a [.str "new",.str "set",.str "remove",.str "back",.str "relist",.str "refresh"]
 eY:∃a,W.nsIn K mainGlobals "QUESTIONS" =some (some (.ref a))/\TupAt K a [.str "list",.str "row",.str "find",.str "changed",.str "tables"]
 Bw:∃a,W.nsIn K mainGlobals "CALLS" =some (some (.ref a))/\S9 K a
 fs:Q0 K
 qR:bM K "answers" kW
end DL
end
section
open PySem PySem.W PyProof.Rows
local macro_rules| `(tactic|walk_at "fn")=> `(tactic|first|exact⟨_,by k_is,_,_,_,_,_,_,_,_,_,by k_is,by k_is,by k_is⟩|exact⟨_,by k_is,by k_is,_,_,_,_,_,_,_,_,_,by k_is,by k_is,by k_is⟩|(change _=_;k_is))
namespace ZZ
inductive KF(Y:aU->aX->Prop)(d:DefRec):ah (Str×PySem.Expr)->Prop
 |mk (K:Params->Frag) (_:∀(w:aU) h,Y w h->(K w.params).In h) (_:∀w:aU,DL.Top (K w.params)) (_:d.params.defaults=[]) (_:d.name= "answers"):KF Y d []
def WW:=∀q l X Y d k,KF Y d k->WalkOS q l X Y PySem.Challenge.rw_objectsessions_s01_answers d k λf v=>PySem.call f v
def PySem.W.holds_os{q loose Xt XP α Yf Ya YP d k N} a b c e f g i j l m n o p r(s:KF YP d k)(h:autoParam (WW) cL._auto_1):= @_root_.PySem.W.holds_os PySem.Challenge.rw_objectsessions_s01_answers q loose Xt XP α Yf Ya YP d k N a b c e f g i j l m n o p r (h _ _ _ _ _ _ s)
theorem early(h:WW):PySem.Challenge.rw_objectsessions_s01_answers.Holds:=by
 have k:=UK;w_on;k_headS;(case hw=>show⟨[.list [.int 16]],by decide+kernel,by decide+kernel⟩);show .mk _ (λw h Y=>W.kIn_of Y) (λw=> ?_) rfl rfl;refine'⟨?xf,?b8,?bE,?bL,?dc,?cK,?aH,?bu,?ci,?cs,?fJ,?kj,?eY,?Bw,?fs,?qR⟩
 (case xf=>show⟨_,by k_is,⟨_,_,_,_,_,_,_,_,_,_,_,_,_,_,_,by k_is,⟨_,_,_,_,_,by k_is,by rw[<- Array.all_toList];rfl⟩,by k_is,by k_is,by k_is,by k_is,by k_is,by k_is,by k_is,⟨_,_,_,_,_,_,_,_,_,by k_is,by k_is,by k_is⟩,by k_is⟩⟩)
 (case b8=>show⟨_,(by constructor<;>k_is),?_,?_,?_,?_⟩<;>walk_at "fn")
 (case bE=>show⟨_,(by constructor<;>k_is),?_,?_,?_,?_,?_,?_,?_,?_,?_,?_,?_⟩<;>walk_at "fn")
 (case bL=>show⟨_,(by constructor<;>k_is),?_,?_,?_,?_,?_,?_,?_⟩<;>walk_at "fn")
 (case dc=>show⟨_,(by constructor<;>k_is),?_,?_,?_,?_⟩<;>walk_at "fn")
 (case cK=>show⟨_,(by constructor<;>k_is),?_,?_,?_,?_,?_,?_,?_⟩<;>walk_at "fn")
 (case aH=>show⟨_,(by constructor<;>k_is),?_,?_,?_,?_,?_,?_,?_,?_,?_,?_,?_⟩<;>walk_at "fn")
 (case bu=>constructor<;>k_is)
 (case ci=>constructor<;>show⟨_,by k_is⟩)
 (case cs=>constructor<;>show⟨_,by k_is⟩)
 (case fJ=>show⟨_,by k_is,_,[_,_,_,_,_,_,_,_,_],_,_,by k_is,by decide,.cons ⟨_,rfl⟩ (.cons ⟨_,rfl⟩ (.cons ⟨_,rfl⟩ (.cons ⟨_,rfl⟩ (.cons ⟨_,rfl⟩ (.cons ⟨_,rfl⟩ (.cons ⟨_,rfl⟩ (.cons ⟨_,rfl⟩ (.cons ⟨_,rfl⟩ (.nil)))))))))⟩)
 (case kj=>show⟨_,by k_is,_,[_,_,_,_,_,_],_,_,by k_is,by decide,.cons ⟨_,rfl⟩ (.cons ⟨_,rfl⟩ (.cons ⟨_,rfl⟩ (.cons ⟨_,rfl⟩ (.cons ⟨_,rfl⟩ (.cons ⟨_,rfl⟩ (.nil))))))⟩)
 (case eY=>show⟨_,by k_is,_,[_,_,_,_,_],_,_,by k_is,by decide,.cons ⟨_,rfl⟩ (.cons ⟨_,rfl⟩ (.cons ⟨_,rfl⟩ (.cons ⟨_,rfl⟩ (.cons ⟨_,rfl⟩ (.nil)))))⟩)
 (case Bw=>show⟨_,by k_is,[(0,_,_,_),(1,_,_,_),(2,_,_,_),(3,_,_,_),(4,_,_,_),(5,_,_,_),(6,_,_,_),(7,_,_,_),(8,_,_,_),(9,_,_,_),(10,_,_,_),(11,_,_,_),(12,_,_,_),(13,_,_,_),(14,_,_,_),(15,_,_,_),(16,_,_,_)],_,by k_is,by decide+kernel,by(repeat show .cons ⟨_,[_,_,_],_,_,by k_is,by decide,.cons ⟨_,rfl⟩ (.cons ⟨_,rfl⟩ (.cons rfl .nil))⟩ ?_);show .nil⟩)
 (case fs=>constructor<;>walk_at "fn")
 (case qR=>walk_at "fn")
end ZZ
end
section
namespace L2
open PySem PySem.Spec PyProof.Rows
abbrev Key:=Sum Int Str
def jO:Key->ak->Bool
 | .inl k,v=>Value.isInt k v
 | .inr x,v=>Value.isStrOf x v
def S_(w:aU):Key->Int
 | .inl k=>hashInt k
 | .inr x=>hashStr w x
theorem dR:∀{k}{v},jO k v=true->(∃i t,k=Sum.inl i/\v=Value.int i t)∨(∃x t,k=Sum.inr x/\v=Value.str x t)
 | .inl i,v,h=>by obtain⟨t,e⟩:=Value.isInt_shape (k:=i) (v:=v) h;show .inl ⟨i,t,rfl,e⟩
 | .inr x,v,h=>by obtain⟨t,e⟩:=Value.isStrOf_shape (x:=x) (v:=v) h;show .inr ⟨x,t,rfl,e⟩
theorem qS i t:jO (.inl i) (.int i t)=true:=by simp[jO,Value.isInt]
theorem IZ x t:jO (.inr x) (.str x t)=true:=by simp[jO,Value.isStrOf]
theorem O5 a b:decide ((Sum.inl a:Key)=Sum.inl b)=(a==b):=by by_cases e:a=b;subst e;simp;have h:¬(Sum.inl a:Key)=Sum.inl b:=λq=>e (YC q);rw[WC h];show(Xs.mpr e).symm
theorem O6 a b:decide ((Sum.inr a:Key)=Sum.inr b)=decide (a=b):=by by_cases e:a=b;subst e;simp;have h:¬(Sum.inr a:Key)=Sum.inr b:=λq=>e (abW q);rw[WC h,WC e]
theorem O7 a b:decide ((Sum.inl a:Key)=Sum.inr b)=false:=WC (λq=>nomatch q)
theorem O8 a b:decide ((Sum.inr a:Key)=Sum.inl b)=false:=WC (λq=>nomatch q)
def bY prog w:PySem.KeyKind prog w Key where
 is:=jO
 hash:=S_ w
 inj:=λv a d b c=>by
  rcases dR b with⟨i,t,rfl,rfl⟩|⟨x,t,rfl,rfl⟩
  . rcases dR c with⟨j,u,rfl,e⟩|⟨y,u,rfl,e⟩
    injection e with b _;rw[b]
    . show nomatch e
  . rcases dR c with⟨j,u,rfl,e⟩|⟨y,u,rfl,e⟩
    . show nomatch e
    injection e with b _;rw[b]
 byValue:=λk v h=>by rcases dR h with⟨i,t,rfl,rfl⟩|⟨x,t,rfl,rfl⟩<;>rfl
 pyHash:=λc h=>by
  rcases dR c with⟨i,t,rfl,rfl⟩|⟨x,t,rfl,rfl⟩
  show wpAny_pyHash_int h;show wpAny_pyHash_str h
 eqBool:=λd c h=>by
  rcases dR d with⟨i,t,rfl,rfl⟩|⟨x,t,rfl,rfl⟩
  rcases dR c with⟨j,u,rfl,rfl⟩|⟨y,u,rfl,rfl⟩
  rw[O5]at h;show wpAny_eqBool_int h;rw[O7]at h;show SeqAt.EqAt.int_str i t y u _ _ _ _ h;rcases dR c with⟨j,u,rfl,rfl⟩|⟨y,u,rfl,rfl⟩
  rw[O8]at h;show SeqAt.EqAt.str_int x t j u _ _ _ _ h;rw[O6]at h;show wpAny_eqBool_str h
 «strs»:=λk x t v h=>by
  rcases dR h with⟨i,u,rfl,e⟩|⟨y,u,rfl,e⟩
  . show nomatch e
  injection e with b _
  subst b;cases v<;>rfl
theorem Dh a w i t:(bY a w).is (.inl i) (.int i t)=true:=qS i t
theorem Di a w x t:(bY a w).is (.inr x) (.str x t)=true:=IZ x t
end L2
namespace L2
open PySem PySem.Spec PyProof.Rows
theorem bW.length(r:bW xs a):xs.length=a.length:=XI r
theorem bW.get:∀{a:ah V}{e:ah ak}{i:Nat}{x:V},bW a e->a[i]? =some x->∃u,e[i]? =some u/\RelV x u
 |_,_,_,_,.nil,e=>by simp at e
 |_,_,0,_,.cons r _,e=>by simp at e;subst e;show⟨_,rfl,r⟩
 |_,_,i+1,x,.cons _ t,e=>by obtain⟨u,a,b⟩:=bW.get (i:=i) (x:=x) t (by simpa using e);show⟨u,by simpa using a,b⟩
theorem bW.append(h:bW b r)(k:bW c a):bW (b++c) (r++a):=by
 induction h with
 |nil=>show k
 |cons r _ h=>show .cons r h
theorem bW.take:∀{xs}{a} n,bW xs a->bW (xs.take n) (a.take n)
 |_,_,0,_=> .nil
 |_,_,_+1,.nil=> .nil
 |_,_,n+1,.cons r t=> .cons r (bW.take n t)
theorem bW.drop:∀{xs}{a} n,bW xs a->bW (xs.drop n) (a.drop n)
 |_,_,0,r=>r
 |_,_,_+1,.nil=> .nil
 |_,_,n+1,.cons _ t=>bW.drop n t
def mJ:az V->az ak->Prop
 |some v,some u=>RelV v u
 |none,none=>True
 |_,_=>False
def KV:ah (a×V)->ah (a×ak)->Prop:=Paired λ(p:a×V)(q:a×ak)=>p.1=q.1/\RelV p.2 q.2
def kV:Key->V
 | .inl i=> .int i
 | .inr x=> .str x
inductive HO where
 |lst (xs:ah V)
 |tup (xs:ah V)
 |dK (a:ah (Key×V))|dT (a:ah (ah Key×V))
 |set (S:Int->Bool) (n:Nat)
 |ins (C dx:ai) (fs:ah (Str×V))
 |own (x:ai)
 |xd (fs:ah (Str×V))
 |met (f x:ai)
 |MS (lo b:Int)
 |dI (o:aV) (u:HO)
 |Oc (c:Array ak)
 |ext (d:aX->Prop)
abbrev Hp:=ai->az HO
def upd(H:Hp)(a:ai)(o:HO):Hp:=λb=>if b=a then some o else H b
theorem av:upd H a o a=some o:=by unfold upd;rw[Wt rfl]
theorem aF(h:b≠a):upd H a o b=H b:=by unfold upd;rw[Wn h]
theorem lH:upd (upd H a o) a u=upd H a u:=by funext b;unfold upd;split<;>rfl
theorem bF{H:Hp}{a b:ai}{o u:HO}(h:H a=some o)(h' :H b=some u)(d:o≠u):a≠b:=by intro e;subst e;rw[h]at h';show d (W5 h')
theorem aA{H:Hp}{a b:ai}{o:HO}(h:H a=some o)(c :H b=none):a≠b:=by intro e;subst e;rw[h]at c;cases c
section
variable(P:aS)(w:aU)
def dw(H:Hp)(h:aX)(a:ai):HO->Prop
 | .lst xs=>xs.length<=sizeLine/\∃(b:ah ak)(n:Nat),bW xs b/\h.get? a=some {cls:= .type "list",data:= .seq b.toArray n}
 | .tup xs=>xs.length<=sizeLine/\∃b:ah ak,bW xs b/\IsTup h a b.toArray
 | .dK b=>b.length<=sizeLine/\(a==sysModules)=false/\∃c,KV b c/\h.DictOf (bY P w) a c
 | .dT b=>b.length<=sizeLine/\(a==sysModules)=false/\∃xs:ah (ah Key×ai×ak),
    Paired (λ(p:ah Key×V)(q:ah Key×ai×ak)=>p.1=q.1/\H q.2.1=some (.tup (p.1.map kV))/\RelV p.2 q.2.2) b xs/\
    ∃o b c,h.get? a=some o/\o.ExactDict/\o.data= .dict b c/\b.toList=xs.map (entryOfKey (tupleKind (bY P w)))/\(xs.map (·.1)).Nodup
 | .set S n=>h.SetOf (intKind P w) a S n
 | .ins C c fs=>H c=some (.own a)/\fs.length<=1000/\c≠a/\h.get? a=some (W.instObj C c)/\
    ∃b,h.Ns1 c b/\(∀f,mJ (fs.lookup f) (b f))/\PySem.Within b (fs.map (·.1))
 | .own _=>∃o,h.get? a=some o
 | .xd fs=>∃b,h.Ns1 a b/\∀f,mJ (fs.lookup f) (b f)
 | .MS lo b=>∃t u v,h.get? a=some {cls:= .type "range",data:= .fields #[.int lo t,.int b u,.int 1 v]}
 | .dI o u=>h.get? a=some o/\dw H h a u
 | .Oc b=>h.get? a=some {cls:= .none,data:= .fields b}
 | .met f x=>h.get? a=some (W.methodObj (.ref f) (.ref x))
 | .ext b=>b h/\(∃o,h.get? a=some o)/\∀c p:aX,b c->(∀o,c.get? a=some o->p.get? a=some o)->b p
def lG(H:Hp)(h:aX):Prop:=∀a o,H a=some o->dw P w H h a o
end
section
variable{P:aS}{w:aU}{H b :Hp}{h h' :aX}{a:ai}{o:HO}
theorem dw.lt(x:dw P w H h a o):a<h.objs.size:=by
 cases o with
 |lst b=>obtain⟨_,_,_,_,e⟩:=x;show WR e
 |tup b=>obtain⟨_,_,_,p⟩:=x;show p.lt
 |dK b=>obtain⟨_,_,_,_,o,_,_,e,_⟩:=x;show WR e
 |dT b=>obtain⟨_,_,_,_,o,_,_,e,_⟩:=x;show WR e
 |set S n=>obtain⟨o,_,_,_,e,_⟩:=x;show WR e
 |ins C b fs=>obtain⟨_,_,_,e,_⟩:=x;show WR e
 |own y=>obtain⟨_,e⟩:=x;show WR e
 |xd fs=>obtain⟨_,⟨_,_,_,e,_⟩,_⟩:=x;show WR e
 |MS lo b=>obtain⟨_,_,_,e⟩:=x;show WR e
 |dI ob u=>obtain⟨e,_⟩:=x;show WR e
 |Oc b=>show WR (show h.get? a=some _ from x)
 |met f y=>show WR (show h.get? a=some _ from x)
 |ext b=>obtain⟨_,⟨_,e⟩,_⟩:=x;show WR e
theorem Paired.Q5(h:Paired F c d)(f:∀a b,F a b->G a b):Paired G c d:=by
 induction h with
 |nil=>show .nil
 |cons r _ b=>show .cons (f _ _ r) b
theorem dw.mU(x:dw P w H h a o)(k:∀c u,(c=a∨H c=some (.own a))->h.get? c=some u->h'.get? c=some u)
 (l:∀c,H c=some (.own a)->b c=some (.own a)) (g:∀c xs,H c=some (.tup xs)->b c=some (.tup xs)):dw P w b h' a o:=by
 induction o with
 |lst xs=>obtain⟨z,d,n,r,e⟩:=x;show⟨z,d,n,r,k _ _ (.inl rfl) e⟩
 |tup xs=>obtain⟨z,d,r,ob,e,c⟩:=x;show⟨z,d,r,ob,k _ _ (.inl rfl) e,c⟩
 |dK i=>obtain⟨z,y,j,r,ob,f,d,e,c⟩:=x;show⟨z,y,j,r,ob,f,d,k _ _ (.inl rfl) e,c⟩
 |dT i=>obtain⟨z,y,xs,r,ob,f,d,e,c⟩:=x;show⟨z,y,xs,Paired.Q5 r λp q z=>⟨z.1,g _ _ z.2.1,z.2.2⟩,ob,f,d,k _ _ (.inl rfl) e,c⟩
 |set S n=>obtain⟨ob,f,d,t,e,c⟩:=x;show⟨ob,f,d,t,k _ _ (.inl rfl) e,c⟩
 |ins C g fs=>obtain⟨j,z,m,e,g,⟨i,f,d,n,c⟩,r⟩:=x;show⟨l _ j,z,m,k _ _ (.inl rfl) e,g,⟨i,f,d,k _ _ (.inr j) n,c⟩,r⟩
 |own y=>obtain⟨ob,e⟩:=x;show⟨ob,k _ _ (.inl rfl) e⟩
 |xd fs=>obtain⟨g,⟨i,f,d,e,c⟩,r⟩:=x;show⟨g,⟨i,f,d,k _ _ (.inl rfl) e,c⟩,r⟩
 |MS lo c=>obtain⟨t,u,v,e⟩:=x;show⟨t,u,v,k _ _ (.inl rfl) e⟩
 |dI ob u c=>obtain⟨e,q⟩:=x;show⟨k _ _ (.inl rfl) e,c q⟩
 |Oc c=>have e:=x;show k a _ (.inl rfl) e
 |met f y=>have e:=x;show k a _ (.inl rfl) e
 |ext c=>obtain⟨p,⟨o,e⟩,st⟩:=x;show⟨st _ _ p λo q=>k _ _ (.inl rfl) q,⟨o,k _ _ (.inl rfl) e⟩,st⟩
theorem lG.lt(x:lG P w H h)(e:H a=some o):a<h.objs.size:=(x a o e).lt
theorem lG.fresh(x:lG P w H h)(e:h.objs.size<=a):H a=none:=by
 cases q:H a with
 |none=>rfl
 |some u=>show absurd (W4 (x.lt q) e) (X9 _)
theorem lG.kept(x:lG P w H h)(k:∀b u,h.get? b=some u->h'.get? b=some u):lG P w H h' :=λa o e=>(x a o e).mU (λb u _ q=>k b u q) (λ_ q=>q) λ_ _ q=>q
theorem lG.laid(x:lG P w H h)(k:∀b u,h.get? b=some u->h'.get? b=some u)(c:h.objs.size<=a)(new:dw P w (upd H a o) h' a o):lG P w (upd H a o) h' :=λb u e=>by
 have d:=x.fresh c;by_cases c:b=a
 . subst c;rw[av]at e;cases e;show new
 . rw[aF c]at e;show(x b u e).mU (λc v _ q=>k c v q) (λc q=>by rw[aF (aA q d)];show q) λc f q=>by rw[aF (aA q d)];show q
end
def Rd(H:Hp)(a:ai)(u:HO):Prop:=H a=some u∨∃o,H a=some (.dI o u)
theorem Rd.ok(r:Rd H a u)(x:lG P w H h):dw P w H h a u:=by
 rcases r with r|⟨o,r⟩
 show x a u r;obtain⟨_,q⟩:=x a _ r;show q
def MT:az HO->Prop
 |some (.lst _)=>True
 |some (.dK _)=>True
 |some (.dT _)=>True
 |some (.set _ _)=>True
 |some (.ins _ _ _)=>True
 |some (.ext _)=>True
 |_=>False
section
variable{P:aS}{w:aU}{H:Hp}{h h' :aX}{x e:ai}{a :HO}
theorem lG.write(ok:lG P w H h)(d:MT (H x))(j:e=x∨H e=some (.own x))(m:∀b u,b≠e->h.get? b=some u->h'.get? b=some u)(l:∃u,h'.get? e=some u)
 (new:dw P w (upd H x a) h' x a):lG P w (upd H x a) h' :=λb u q=>by
 have k:∀c y,H c=some (.own y)->c≠x:=λc y r z=>by subst z;rw[r]at d;show d
 have y:∀c i,H c=some (.tup i)->c≠x:=λc i r z=>by subst z;rw[r]at d;show d
 by_cases d:b=x;subst d;rw[av]at q;cases q;show new;rw[aF d]at q;by_cases f:b=e
 have g :H b=some (.own x):=by
  rcases j with z|z
  show absurd (f.trans z) d;rw[f];show z
 rw[q]at g;cases g;obtain⟨v,g⟩:=l;show⟨v,by rw[f];show g⟩;show(ok b u q).mU (λc v g r=>m c v ?_ r) (λc r=>by rw[aF (k c b r)];show r) λc i r=>by rw[aF (y c i r)];show r
 rcases g with rfl|g
 show f;rintro rfl;rcases j with z|z
 show k c b g z;rw[g]at z;cases z;show d rfl
end
structure Un(fs ex:ah ai)(H H' :Hp)(h h' :aX):Prop where
 keep:∀b o,h.get? b=some o->H b=none->b∉fs->b∉ex->h'.get? b=some o
 slot:∀b o,h.get? b=some o->H b=none->b∈fs->b∉ex->∃sl,h'.get? b=some {o with slots:=sl}
 free:∀b o,h.get? b=some o->H b=none->b∉ex->H' b=none
 there:∀b o,h.get? b=some o->b∉ex->∃o',h'.get? b=some o'
 sQ:∀b xs,H b=some (.tup xs)->H' b=some (.tup xs)
 pX:∀b o u,H b=some (.dI o u)->H' b=some (.dI o u)
 sR:∀b ps,H b=some (.Oc ps)->∃more,H' b=some (.Oc (ps++more))
section
variable{fs f b g :ah ai}{H d j:Hp}{h c i h' :aX}{a x e:ai}{o:HO}
theorem Un.any(u:Un fs b H d h c){ob:aV}(q:h.get? l=some ob)(n:H l=none)(e:l∉b):∃a,c.get? l=some {ob with slots:=a}:=by by_cases a:l∈fs;show u.slot l ob q n a e;show⟨ob.slots,u.keep l ob q n a e⟩
theorem Un.kept(k:∀a u,h.get? a=some u->h'.get? a=some u):Un fs b H H h h' :=
 ⟨λa ob q _ _ _=>k a ob q,λa ob q _ _ _=>⟨ob.slots,k a ob q⟩,λ_ _ _ n _=>n,λa ob q _=>⟨ob,k a ob q⟩,λ_ _ q=>q,λ_ _ _ q=>q,λ_ u q=>⟨#[],by rw[q];simp⟩⟩
theorem Un.refl:Un fs b H H h h:=Un.kept λ_ _ q=>q
theorem Un.laid(k:∀c u,h.get? c=some u->h'.get? c=some u)(e:h.objs.size<=a)(d:H a=none):Un fs b H (upd H a o) h h' where
 keep:=λc u q _ _ _=>k c u q
 slot:=λc u q _ _ _=>⟨u.slots,k c u q⟩
 free:=λc u q n _=>by rw[aF (W6 (W4 (WR q) e))];show n
 there:=λc u q _=>⟨u,k c u q⟩
 sQ:=λc e q=>by rw[aF (aA q d)];show q
 pX:=λc u e q=>by rw[aF (aA q d)];show q
 sR:=λc e q=>⟨#[],by rw[aF (aA q d),q];simp⟩
theorem Un.write(c:MT (H x))(j:e=x∨H e=some (.own x))(k:∀a u,a≠e->h.get? a=some u->h'.get? a=some u)(l:∃u,h'.get? e=some u):Un fs b H (upd H x o) h h' :=by
 have i:∀a,H a=none->a≠x:=λa n z=>by subst z;rw[n]at c;show c
 have f:∀a,H a=none->a≠e:=λa n z=>by
  subst z;rcases j with r|r
  show i a n r;rw[n]at r;cases r
 have d:∀a u,H a=some u->¬MT (some u)->a≠x:=λa u q m z=>by subst z;rw[q]at c;show m c
 show⟨λa u q n _ _=>k a u (f a n) q,λa u q n _ _=>⟨u.slots,k a u (f a n) q⟩,λa u q n _=>by rw[aF (i a n)];show n,λa u q _=> ?_,
  λa p q=>by rw[aF (d a _ q λz=>z)];show q,λa u p q=>by rw[aF (d a _ q λz=>z)];show q,λa s q=>⟨#[],by rw[aF (d a _ q λz=>z),q];simp⟩⟩
 by_cases g:a=e;subst g;show l;show⟨u,k a u g q⟩
end
def Sx(h:aX)(H:Hp):ah Addr:=(List.range h.objs.size).filter λa=>(H a).isSome
def Bx(h:aX)(H:Hp):Heap:=W.hideAll h (Sx h H)
theorem I0 h H:(Bx h H).objs.size=h.objs.size:=W.hideAll_size _ _
theorem J9(e:h.get? b=some o)(n:H b=none):(Bx h H).get? b=some o:=
 W.hideAll_get _ e λb=>by have q:=(W_.mp b).2;rw[n]at q;simp at q
theorem MV(e:(Bx h H).get? b=some o):h.get? b=some o/\H b=none:=by
 have a :h.get? b=some o:=W.of_hideAll (Sx h H) e;show⟨a,?_⟩;cases q:H b with
 |none=>rfl
 |some x=>have o:b∈Sx h H:=W_.mpr ⟨YK.mpr (WR a),by simp[q]⟩;have z:(Bx h H).get? b=none:=W.hideAll_none (Sx h H) o;rw[z]at e;cases e
end L2
namespace L2
open PySem PySem.Spec PyProof.Rows
structure Mod(K:ay)(mg:Str->az ak)(base:aX):Prop where
 QD:K.In base
 glob:base.Ns mainGlobals mg
 blt:∃mb,base.Ns builtinsNs mb/\∀x:Str,x≠"__name__"->mb x=bootBuiltins x
 nolimit:base.NoLimit
structure Cx where
 prog:aS
 w:aU
 K:ay
 mg:Str->az ak
 base:aX
 A:bC
 N:ah Str
 s8:aq
 MX:Hp
 env:Env
 outer:ah Env
 stack:ah Env
 ex:ah ai
 fn:Str->Bool
 calm:Bool
 pn:ah (ai×aV)
 xe:ak->aq->Prop
def qT(l:ah Env):ah Addr:=l.filterMap (·.frame)
abbrev Cx.fs(X:Cx):ah Addr:=qT X.outer
def QF(a:Scope)(x:Str):Prop:=a.names.lookup x=some .local∨a.names.lookup x=some .cell∨a.names.lookup x=some .free
def Loc(a:Scope)(x:Str):Prop:=a.names.lookup x=some .local∨a.names.lookup x=some .cell
def Tc(a:Env)(h:aX)(m:Str->az ak)(x:Str)(u:ak):Prop:=
 (a.kindOf x=some .local/\m x=some u)∨((a.kindOf x=some .cell∨a.kindOf x=some .free)/\∃c,a.cells.lookup x=some c/\h.IsCell c (some u))
structure Cx.Ok(X:Cx):Prop where
 mod:Mod X.K X.mg X.base
 kind:X.env.scope.kind= .function
 glob:X.env.globals=mainGlobals
 blt:X.env.builtins=builtinsNs
 above:X.s8.heap.objs.size<=X.env.locals
 inj:∀x y c,X.env.cells.lookup x=some c->X.env.cells.lookup y=some c->x=y
 has:∀x,(X.env.kindOf x=some .cell∨X.env.kindOf x=some .free)->∃c,X.env.cells.lookup x=some c
 Sy:∀x c,X.fn x=true->X.env.cells.lookup x=some c->X.s8.heap.objs.size<=c
 hd:X.calm=true->X.A.handled=none
 frames:X.A.frames=some X.stack
 Td:X.stack=X.outer∨(X.stack=X.env::X.outer/\X.env.frame=some X.env.locals)
 Te:∀b∈X.ex,b≠X.env.locals/\∀x c,X.env.cells.lookup x=some c->c≠b
 bs:∀b o,X.base.get? b=some o->X.s8.heap.get? b=some o/\X.MX b=none
 MY:X.base.objs.size<=X.s8.heap.objs.size
 MZ:∀b o,X.base.get? b=some o->b∉X.ex
 M0:∀b∈X.ex,b∉X.fs
 sS:X.s8.heap.FunFrames X.base X.outer
 QG:∀b∈X.fs,X.MX b=none
structure Inv(X:Cx)(pins:ah (ai×aV))(σ:ah (az V))(H:Hp)(s:aq):Prop where
 ok:X.Ok
 os:s.os=X.s8.os
 bare:AllBare s.gens
 base:Un X.fs X.ex X.MX H X.s8.heap s.heap
 loc:∃m,s.heap.Ns X.env.locals m/\∀(i:Nat)(x:Str)(v:V),X.N[i]? =some x->σ[i]? =some (some v)->QF X.env.scope x->∃u,RelV v u/\Tc X.env s.heap m x u
 cell:∀x c,X.env.cells.lookup x=some c->∃v,s.heap.IsCell c v
 free:H X.env.locals=none
 ko:∀x c,X.env.cells.lookup x=some c->H c=none
 pin:∀p∈X.pn++pins,s.heap.get? p.1=some p.2/\H p.1=none/\p.1≠X.env.locals/\p.1∉X.fs/\∀v,p.2.data≠.cell v
 dD:lG X.prog X.w H s.heap
 len:σ.length=X.N.length
section
variable{X:Cx}{pins:ah (ai×aV)}{c:ah (az V)}{H d :Hp}{s:aq}{h' :aX}
theorem Cx.Ok.Tf(ok:X.Ok)(e:X.base.get? b=some o):b∉X.fs:=λa=>by have:=(ok.sS.mem a).1;rw[e]at this;cases this
theorem Inv.bs(I:Inv X pins c H s):∀b o,X.base.get? b=some o->s.heap.get? b=some o/\H b=none:=λb o e=>⟨I.base.keep b o (I.ok.bs b o e).1 (I.ok.bs b o e).2 (I.ok.Tf e) (I.ok.MZ b o e),I.base.free b o (I.ok.bs b o e).1 (I.ok.bs b o e).2 (I.ok.MZ b o e)⟩
theorem Inv.bk(I:Inv X pins c H s):∀b o,X.base.get? b=some o->s.heap.get? b=some o:=λb o e=>(I.bs b o e).1
theorem Inv.mod(I:Inv X pins c H s):Mod X.K X.mg X.base:=I.ok.mod
theorem Inv.ur(I:Inv X pins c H s):X.K.In s.heap:=I.ok.mod.QD.keeps I.bk
theorem Inv.nolimit(I:Inv X pins c H s):s.heap.NoLimit:=I.ok.mod.nolimit.keeps I.bk
theorem Inv.fr(I:Inv X pins c H s):∃m,Fr X.base X.env.locals s.heap m:=
 let⟨m,a,_⟩:=I.loc
 ⟨m,a,I.bk,Xi I.ok.MY I.ok.above⟩
theorem Inv.lt(I:Inv X pins c H s):X.env.locals<s.heap.objs.size:=let⟨_,a,_⟩:=I.loc;a.lt
theorem Inv.sz(I:Inv X pins c H s):X.s8.heap.objs.size<=s.heap.objs.size:=Xi I.ok.above (Zn I.lt)
theorem Inv.Tg(I:Inv X pins c H s)(h:s.heap.objs.size<=a):a∉X.fs:=λb=>by obtain⟨_,o,a,_⟩:=I.ok.sS.mem b;show absurd (W4 (WR a) (Xi I.sz h)) (X9 _)
theorem Inv.Od(I:Inv X pins c H s):∀x a,X.env.cells.lookup x=some a->a≠X.env.locals:=λx a e z=>by obtain⟨v,o,d,b⟩:=I.cell x a e;obtain⟨m,⟨o,f,x,e,a,_⟩,_⟩:=I.loc;rw[z,e]at d;cases d;rw[a]at b;cases b
theorem Inv.sS(I:Inv X pins c H s):s.heap.FunFrames X.base X.outer:=by
 have all:∀(l:ah Env),(∀b∈qT l,b∈X.fs)->X.s8.heap.FunFrames X.base l->s.heap.FunFrames X.base l:=by
  intro l
  induction l with
  |nil=>intro _ _;trivial
  |cons l r k=>intro d l;obtain⟨g,⟨L,o,a,h,i,f⟩,j⟩:=l;have l:=d L (by unfold qT;rw[YX,a];show WD);obtain⟨r,e⟩:=I.base.slot L o i (I.ok.QG L l) l λz=>I.ok.M0 L z l;show⟨g,⟨L,_,a,h,e,f⟩,k (λb l=>d b (by unfold qT;rw[YX,a];show Wz _ l)) j⟩
 show all X.outer (λ_ l=>l) I.ok.sS
theorem Inv.stack(I:Inv X pins c H s):s.heap.FunFrames X.base X.stack:=by
 rcases I.ok.Td with e|⟨e,a⟩
 rw[e];show I.sS;rw[e];obtain⟨m,e,_⟩:=I.loc;show .cons (by rw[I.ok.kind];decide) a e ?_ I.sS;show Heap.get?_none_of_le (Xi I.ok.MY I.ok.above)
theorem Inv.By(I:Inv X pins c H s):∀b∈qT X.stack,b∈X.env.locals::X.fs:=λb a=>by
 rcases I.ok.Td with e|⟨e,b⟩
 rw[e]at a;show Wz _ a;rw[e]at a;unfold qT at a;rw[YX,b]at a;show a
theorem Inv.s9(I:Inv X pins c H s):∀b∈qT X.stack,H b=none:=λb a=>by
 rcases WB.mp (I.By b a)with e|a
 rw[e];show I.free;obtain⟨_,o,e,_⟩:=I.ok.sS.mem a;show I.base.free b o e (I.ok.QG b a) λz=>I.ok.M0 b z a
theorem Inv.step{g' :Array GenState}{t' :Nat}{d' :Drawn}{ch:ah ai}(I:Inv X pins c H s)
 (q:∀b∈ch,(b∈X.ex∨X.s8.heap.objs.size<=b)/\b≠X.env.locals/\(∀x a,X.env.cells.lookup x=some a->a≠b)/\∀p∈X.pn++pins,p.1≠b)
 (keep:∀b o,b≠X.env.locals->b∉X.fs->b∉ch->s.heap.get? b=some o->H b=none->h'.get? b=some o)
 (E:∀b o,b≠X.env.locals->b∈X.fs->b∉ch->s.heap.get? b=some o->H b=none->∃l,h'.get? b=some {o with slots:=l}) (free:∀b o,b∉ch->s.heap.get? b=some o->H b=none->d b=none)
 (there:∀b o,b∉ch->s.heap.get? b=some o->∃t,h'.get? b=some t)
 (M:∀b xs,H b=some (.tup xs)->d b=some (.tup xs)) (F:∀b o y,H b=some (.dI o y)->d b=some (.dI o y)) (L:∀b w,H b=some (.Oc w)->∃f,d b=some (.Oc (w++f)))
 (K:∀m,s.heap.Ns X.env.locals m->h'.Ns X.env.locals m) (J:lG X.prog X.w d h') (G:AllBare g'):
 Inv X pins c d {s with heap:=h',gens:=g',drawn:=d',toks:=t'}:=by
 have D:∀b o,X.s8.heap.get? b=some o->b≠X.env.locals:=λb o e=>W6 (W4 (WR e) I.ok.above)
 have u:∀b o,X.s8.heap.get? b=some o->b∉X.ex->b∉ch:=λb o e f h=>by
  rcases(q b h).1 with z|z
  show f z;show absurd (W4 (WR e) z) (X9 _)
 have B:∀x a,X.env.cells.lookup x=some a->∀v,s.heap.IsCell a v->h'.IsCell a v:=λx a e v⟨o,j,A⟩=>by have r:a∉ch:=λz=>(q a z).2.2.1 x a e rfl;by_cases g:a∈X.fs;obtain⟨l,C⟩:=E a o (I.Od x a e) g r j (I.ko x a e);show⟨_,C,A⟩;show⟨o,keep a o (I.Od x a e) g r j (I.ko x a e),A⟩
 show⟨I.ok,I.os,G,⟨λb o e n h f=> ?_,λb o e n h f=> ?_,λb o e n f=> ?_,λb o e f=> ?_,λb xs e=>M b xs (I.base.sQ b xs e),λb o xs e=>F b o xs (I.base.pX b o xs e),λb w e=> ?_⟩,?_,λx a e=> ?_,?_,λx a e=> ?_,λp C=> ?_,J,I.len⟩;show keep b o (D b o e) h (u b o e f) (I.base.keep b o e n h f) (I.base.free b o e n f);obtain⟨l,g⟩:=I.base.slot b o e n h f;obtain⟨F,l⟩:=E b _ (D b o e) h (u b o e f) g (I.base.free b o e n f);show⟨F,l⟩;obtain⟨t,g⟩:=I.base.there b o e f;show free b t (u b o e f) g (I.base.free b o e n f);obtain⟨t,g⟩:=I.base.there b o e f;show there b t (u b o e f) g;obtain⟨f,g⟩:=I.base.sR b w e;obtain⟨h,l⟩:=L b _ g;show⟨f++h,by rw[l,abJ]⟩;obtain⟨m,f,t⟩:=I.loc;show⟨m,K m f,λi x v g l h=> ?_⟩;obtain⟨y,u,f⟩:=t i x v g l h;show⟨y,u,?_⟩;rcases f with f|⟨k,a,e,z⟩
 show .inl f;show .inr ⟨k,a,e,B x a e _ z⟩;obtain⟨v,z⟩:=I.cell x a e;show⟨v,B x a e v z⟩;obtain⟨m,⟨o,_,_,j,_⟩,_⟩:=I.loc;show free _ o (λz=>(q _ z).2.1 rfl) j I.free;obtain⟨v,o,j,A⟩:=I.cell x a e;show free a o (λz=>(q a z).2.2.1 x a e rfl) j (I.ko x a e);obtain⟨e,n,f,g,l⟩:=I.pin p C;have r:p.1∉ch:=λz=>(q p.1 z).2.2.2 p C rfl;show⟨keep p.1 p.2 f g r e n,free p.1 p.2 r e n,f,g,l⟩
theorem Inv.un{t' :Nat}(I:Inv X pins c H s)(u:Un X.fs [] H d s.heap h')(i:lG X.prog X.w d h'):Inv X pins c d {s with heap:=h',toks:=t'}:=by obtain⟨m,⟨o,e,a,f,r⟩,_⟩:=id I.loc;obtain⟨a,g⟩:=u.any f I.free (by simp);show I.step (g' :=s.gens) (d' :=s.drawn) (ch:=[]) (λ_ z=>nomatch z) (λb o _ a _ e n=>u.keep b o e n a (by simp)) (λb o _ a _ e n=>u.slot b o e n a (by simp)) (λb o _ e n=>u.free b o e n (by simp)) (λb o _ e=>u.there b o e (by simp)) u.sQ u.pX u.sR (λj h=>by obtain⟨m,u,e,a,j⟩:=h;rw[f]at a;cases a;show⟨_,u,e,g,j⟩) i I.bare
theorem Inv.call{g' :Array GenState}{t' :Nat}{d' :Drawn}{ch:ah ai}(I:Inv X pins c H s)(u:Un (qT X.stack) ch H d s.heap h')(l:lG X.prog X.w d h')(j:AllBare g')
 (g:∀b∈ch,(b∈X.ex∨X.s8.heap.objs.size<=b)/\b≠X.env.locals/\(∀x a,X.env.cells.lookup x=some a->a≠b)/\∀p∈X.pn++pins,p.1≠b):
 Inv X pins c d {s with heap:=h',gens:=g',drawn:=d',toks:=t'}:=by
 obtain⟨m,⟨o,e,a,h,r⟩,_⟩:=id I.loc;obtain⟨a,f⟩:=u.any h I.free λz=>(g _ z).2.1 rfl;show I.step (ch:=ch) g (λb o f i a e n=>u.keep b o e n (λz=>(WB.mp (I.By b z)).elim f i) a) (λb o _ _ a e n=>u.any e n a) (λb o a e n=>u.free b o e n a) (λb o a e=>u.there b o e a) u.sQ u.pX u.sR (λp k=>by obtain⟨p,e,b,a,g⟩:=k;rw[h]at a;cases a;show⟨_,e,b,f,g⟩) l j
theorem Inv.turned{t' :Nat}{a:ai}(I:Inv X pins c H s)(k:∀b o,b≠a->s.heap.get? b=some o->h'.get? b=some o)(d:H a=none)(q:a≠X.env.locals)
 (h:a∈X.ex∨X.s8.heap.objs.size<=a) (i:∀x f,X.env.cells.lookup x=some f->f≠a) (j:∀p∈X.pn++pins,p.1≠a):Inv X pins c H {s with heap:=h',toks:=t'}:=by
 have g:∀b u,H b=some u->b≠a:=λb u e z=>by rw[z,d]at e;cases e
 show I.step (g' :=s.gens) (d' :=s.drawn) (ch:=[a]) (λb l=> ?_) (λb o _ _ d e _=>k b o (λz=>d (by simp[z])) e) (λb o _ _ d e _=>⟨o.slots,k b o (λz=>d (by simp[z])) e⟩) (λ_ _ _ _ n=>n)
  (λb o d e=>⟨o,k b o (λz=>d (by simp[z])) e⟩) (λ_ _ e=>e) (λ_ _ _ e=>e) (λb r e=>⟨#[],by rw[e];simp⟩) (λp m=> ?_) (λb u e=> ?_) I.bare
 have e:b=a:=by simpa using l
 subst e;show⟨h,q,i,j⟩;obtain⟨o,h,a,i,r⟩:=m;show⟨o,h,a,k _ o (Yt q) i,r⟩;show(I.dD b u e).mU (λf v d q=>k f v ?_ q) (λ_ q=>q) λ_ _ q=>q;rcases d with z|z
 rw[z];show g b u e;show g f _ z
theorem Inv.tok(I:Inv X pins c H s) t:Inv X pins c H {s with toks:=t}:=I.un (h' :=s.heap) (t' :=t) Un.refl I.dD
theorem Inv.kept(I:Inv X pins c H s)(k:∀b u,s.heap.get? b=some u->h'.get? b=some u):Inv X pins c H {s with heap:=h',toks:=t'}:=I.un (Un.kept k) (I.dD.kept k)
theorem Inv.laid(I:Inv X pins c H s)(k:∀d u,s.heap.get? d=some u->h'.get? d=some u)(b:s.heap.objs.size<=a)(new:dw X.prog X.w (upd H a o) h' a o):
 Inv X pins c (upd H a o) {s with heap:=h',toks:=t'}:=I.un (Un.laid k b (I.dD.fresh b)) (I.dD.laid k b new)
theorem Inv.write(I:Inv X pins c H s)(f:MT (H x))(a:e=x∨H e=some (.own x))(k:∀b u,b≠e->s.heap.get? b=some u->h'.get? b=some u)(d:∃u,h'.get? e=some u)
 (new:dw X.prog X.w (upd H x o) h' x o):Inv X pins c (upd H x o) {s with heap:=h',toks:=t'}:=I.un (Un.write f a k d) (I.dD.write f a k d new)
theorem Inv.weak(I:Inv X pins c H s)(e:a.length=c.length)(w:∀(i:Nat) v,a[i]? =some (some v)->c[i]? =some (some v)):Inv X pins a H s:=
 ⟨I.ok,I.os,I.bare,I.base,let⟨m,g,f⟩:=I.loc;⟨m,g,λi x v a b d=>f i x v a (w i v b) d⟩,I.cell,I.free,I.ko,I.pin,I.dD,e.trans I.len⟩
theorem Inv.Hs(I:Inv X pins c H s)(h:∀p∈a,s.heap.get? p.1=some p.2/\H p.1=none/\p.1≠X.env.locals/\p.1∉X.fs/\∀v,p.2.data≠.cell v):Inv X a c H s:=
 ⟨I.ok,I.os,I.bare,I.base,I.loc,I.cell,I.free,I.ko,λp a=>(W0.mp a).elim (λz=>I.pin p (Xw _ z)) (h p),I.dD,I.len⟩
theorem uv{N:ah Str}(c:N.Nodup){i j:Nat}{x:Str}(a:N[i]? =some x)(b:N[j]? =some x):i=j:=by obtain⟨j,i⟩:=Wo.mp a;obtain⟨j,a⟩:=Wo.mp b;show(List.getElem_inj c).mp (i.trans a.symm)
theorem qU(I:Inv X pins c H s)(Q:X.N.Nodup)(m:X.N[w]? =some x)(h:Loc X.env.scope x)(W:RelV v M)
 (P:∀s',Inv X pins (c.set w (some v)) H s'->(∃d,Heap.SameBut d s.heap s'.heap/\(d=X.env.locals∨X.env.cells.lookup x=some d))->z () s') (R:autoParam (X.fn x=true∨X.env.scope.names.lookup x=some .local) cL._auto_2):wpAny b A (storeName X.env x M) z E s:=by
 obtain⟨xg,E,T⟩:=id I.loc;have i:(X.env.scope.kind== .class||(X.env.scope.kind== .module&&X.env.locals !=X.env.globals))=false:=by rw[I.ok.kind];rfl
 have S:w<c.length:=by rw[I.len];show(Wo.mp m).1
 have Od:=I.Od
 have Y:∀{d:ai}{h' :aX},(∃o,s.heap.get? d=some o/\H d=none)->Heap.SameBut d s.heap h'->lG X.prog X.w H h' :=λ{d h'} f a b ob e=>by
  obtain⟨_,_,z⟩:=f;show(I.dD b ob e).mU (λd B g q=>(a.2 d ?_).trans q) (λ_ q=>q) λ_ _ q=>q;rintro rfl;rcases g with rfl|g
  rw[z]at e;cases e;rw[z]at g;cases g
 rcases h with j|j
 show wpAny_storeName_local j E (λh' z a=> ?_) i;obtain⟨t,_,_,l,_⟩:=id E;show P _ ⟨I.ok,I.os,I.bare,⟨λb o e n k h=> ?_,λb o e n k h=> ?_,I.base.free,λb o e h=> ?_,I.base.sQ,I.base.pX,I.base.sR⟩,⟨_,z,λr y O f i C=> ?_⟩,λy d e=> ?_,I.free,I.ko,λp F=> ?_,Y ⟨t,l,I.free⟩ a,by simpa using I.len⟩ ⟨_,a,.inl rfl⟩;show(a.2 b (W6 (W4 (WR e) I.ok.above))).trans (I.base.keep b o e n k h);obtain⟨L,f⟩:=I.base.slot b o e n k h;show⟨L,(a.2 b (W6 (W4 (WR e) I.ok.above))).trans f⟩;obtain⟨J,f⟩:=I.base.there b o e h;show⟨J,(a.2 b (W6 (W4 (WR e) I.ok.above))).trans f⟩;by_cases l:r=w;subst l;rw[m]at f;cases f;rw[Xe S]at i;cases i;show⟨M,W,.inl ⟨j,by simp⟩⟩;rw[Xn (Yt l)]at i;obtain⟨N,K,q⟩:=T r y O f i C;show⟨N,K,?_⟩;rcases q with⟨t,e⟩|⟨t,d,e,z⟩
 show .inl ⟨t,?_⟩;have:y≠x:=λe=>l (uv Q f (e▸m));simp[this,e];show .inr ⟨t,d,e,z.sameBut a (Od y d e)⟩;obtain⟨B,z⟩:=I.cell y d e;show⟨B,z.sameBut a (Od y d e)⟩;obtain⟨e,n,A,G,u⟩:=I.pin p F;show⟨(a.2 p.1 A).trans e,n,A,G,u⟩
 have D:X.fn x=true:=by
  rcases R with z|z
  show z;rw[z]at j;cases j
 obtain⟨d,g⟩:=I.ok.has x (.inl j);obtain⟨B,z⟩:=I.cell x d g;show wpAny_storeName_cell I.ok.kind j g z (λh' R a=> ?_);obtain⟨V,U,Z⟩:=id z;show P {s with heap:=h'} ⟨I.ok,I.os,I.bare,⟨λb o e n k h=> ?_,λb o e n k h=> ?_,I.base.free,λb o e h=> ?_,I.base.sQ,I.base.pX,I.base.sR⟩,⟨xg,E.sameBut a (Yt (Od x d g)),λr y O f i C=> ?_⟩,λy z e=> ?_,I.free,I.ko,λp F=> ?_,Y ⟨V,U,I.ko x d g⟩ a,by simpa using I.len⟩ ⟨d,a,.inr g⟩;show(a.2 b (W6 (W4 (WR e) (I.ok.Sy x d D g)))).trans (I.base.keep b o e n k h);obtain⟨L,f⟩:=I.base.slot b o e n k h;show⟨L,(a.2 b (W6 (W4 (WR e) (I.ok.Sy x d D g)))).trans f⟩;obtain⟨J,f⟩:=I.base.there b o e h;show⟨J,(a.2 b (W6 (W4 (WR e) (I.ok.Sy x d D g)))).trans f⟩;by_cases l:r=w;subst l;rw[m]at f;cases f;rw[Xe S]at i;cases i;show⟨M,W,.inr ⟨.inl j,d,g,R⟩⟩;rw[Xn (Yt l)]at i;obtain⟨N,K,q⟩:=T r y O f i C;show⟨N,K,?_⟩;rcases q with q|⟨t,z,e,b⟩
 show .inl q;show .inr ⟨t,z,e,b.sameBut a ?_⟩;rintro rfl;show l (uv Q f (I.ok.inj _ _ _ e g▸m));by_cases b:z =d;subst b;show⟨_,R⟩;obtain⟨d,f⟩:=I.cell y z e;show⟨d,f.sameBut a b⟩;obtain⟨e,n,A,G,u⟩:=I.pin p F;show⟨(a.2 p.1 ?_).trans e,n,A,G,u⟩;intro q;rw[q,U]at e;have z :V=p.2:=W5 e;show u B (by rw[<- z];show Z)
theorem uw(I:Inv X pins c H s)(b:X.N.Nodup)(e:X.N[i]? =some x)(f:Loc X.env.scope x)(r:RelV v u)
 (h:∀a,Inv X pins (c.set i (some v)) H a->Q () a) (d:autoParam (X.fn x=true∨X.env.scope.names.lookup x=some .local) cL._auto_2):wpAny M A (storeName X.env x u) Q E s:=
 qU I b e f r (λa x _=>h a x) d
theorem Inv.J_(I:Inv X pins c H s)(h:s'.os=s.os)(u:Un (qT X.stack) ch H d s.heap s'.heap)(i:lG X.prog X.w d s'.heap)(g:AllBare s'.gens)
 (f:∀b∈ch,(b∈X.ex∨X.s8.heap.objs.size<=b)/\b≠X.env.locals/\(∀x a,X.env.cells.lookup x=some a->a≠b)/\∀p∈X.pn++pins,p.1≠b):Inv X pins c d s' :=by
 obtain⟨h',g',d',t',a⟩:=s';have e:=h;subst e;show I.call (g' :=g') (t' :=t') (d' :=d') u i g f
end
abbrev XK:=ak->az ai->Hp->Prop
abbrev St:=ah (az V)
abbrev VK:=V->Hp->Prop
abbrev TE:=St->Hp->VK->Prop
abbrev TT:=St->Hp->(Bool->Hp->Prop)->Prop
abbrev TA:=St->Hp->(ah V->Hp->Prop)->Prop
structure w5 where
 nx:St->Hp->Prop
 rt:VK
 bk:St->Hp->Prop:=λ_ _=>False
 ct:St->Hp->Prop:=λ_ _=>False
abbrev TS:=w5->St->Hp->Prop
inductive EP(X:Cx)(a:ah (ai×aV))(c:St)(Q:VK)(u:ak)(b :aq):Prop
 |mk (v H') (_:Inv X a c H' b) (_:RelV v u) (_:Q v H'):EP X a c Q u b
inductive TP(X:Cx)(a:ah (ai×aV))(d:St)(Q:Bool->Hp->Prop)(b:Bool)(c :aq):Prop
 |mk (H') (_:Inv X a d H' c) (_:Q b H'):TP X a d Q b c
inductive AP(X:Cx)(a:ah (ai×aV))(d:St)(Q:ah V->Hp->Prop)(c:ah ak)(b :aq):Prop
 |mk (vs H') (_:Inv X a d H' b) (_:bW vs c) (_:Q vs H'):AP X a d Q c b
inductive GP(X:Cx)(a:ah (ai×aV))(Q:St->Hp->Prop)(b :aq):Prop
 |mk (Sz H') (_:Inv X a Sz H' b) (_:Q Sz H'):GP X a Q b
inductive RP(X:Cx)(a:ah (ai×aV))(Q:VK)(u:ak)(b :aq):Prop
 |mk (v Sz H') (_:Inv X a Sz H' b) (_:RelV v u) (_:Q v H'):RP X a Q u b
def SP(X:Cx)(pins:ah (ai×aV))(D:w5)(f:Flow)(s' :aq):Prop:=
 match f with
 | .next=>GP X pins D.nx s'
 | .brk=>GP X pins D.bk s'
 | .cont=>GP X pins D.ct s'
 | .ret u=>RP X pins D.rt u s'
def PE(X:Cx)(e:bx)(t:TE):Prop:=
 ∀⦃pins:ah (ai×aV)⦄(s:aq) (a:St) (H:Hp) (Q:VK),Inv X pins a H s->t a H Q->wpAny (model X.prog X.w) X.A (eval e X.env) (EP X pins a Q) X.xe s
def PT(X:Cx)(e:bx)(t:TT):Prop:=
 ∀⦃b:ah (ai×aV)⦄(s:aq) (a:St) (H:Hp) (Q:Bool->Hp->Prop),Inv X b a H s->t a H Q->wpAny (model X.prog X.w) X.A (isTrue e X.env (eval e X.env)) (TP X b a Q) X.xe s
def PW(X:Cx)(e:bx)(t:TT):Prop:=
 ∀⦃whole:Sem ak⦄(b:ah (ai×aV)) (s:aq) (a:St) (H:Hp) (Q:Bool->Hp->Prop),Inv X b a H s->t a H Q->wpAny (model X.prog X.w) X.A (isTrue e X.env whole) (TP X b a Q) X.xe s
theorem PW.pt{t:TT}(h:PW X e t):PT X e t:=λp=>h p
def PA(X:Cx)(c:ah bx)(t:TA):Prop:=
 ∀⦃d:Pos⦄(b:ah (ai×aV)) (s:aq) (a:St) (H:Hp) (Q:ah V->Hp->Prop),Inv X b a H s->t a H Q->wpAny (model X.prog X.w) X.A (spliced (backTo d (starEach c X.env))) (AP X b a Q) X.xe s
def PS(X:Cx)(st:b7)(t:TS):Prop:=
 ∀⦃pins:ah (ai×aV)⦄(s:aq) (a:St) (H:Hp) (D:w5),Inv X pins a H s->t D a H->wpAny (model X.prog X.w) X.A (exec st X.env) (SP X pins D) X.xe s
def Dj(X:Cx)(st:ah b7)(t:TS):Prop:=
 ∀⦃pins:ah (ai×aV)⦄(s:aq) (a:St) (H:Hp) (D:w5),Inv X pins a H s->t D a H->wpAny (model X.prog X.w) X.A (execs st X.env) (SP X pins D) X.xe s
theorem dz{t:Sem d}(h:wpAny M A t Q E s)(c:∀a s,Q a s->b a s):wpAny M A t b E s:=Yp h c λ_ _ x=>x
end L2
namespace L2
open PySem PySem.Spec PyProof.Rows
section
variable{X:Cx}
def pY(i:Nat):TE:=λa H Q=>∃v,a[i]? =some (some v)/\Q v H
def tC(v:V):TE:=λ_ H Q=>Q v H
theorem O9(a:X.N[i]? =some x)(g:QF X.env.scope x)(b:autoParam ((x==("__debug__" :Str))=false) cL._auto_3)(d:autoParam ((x==("__classdict__" :Str))=false) cL._auto_3):PE X (.Name x c) (pY i):=by
 intro j s k H Q I h;obtain⟨v,e,h⟩:=h;obtain⟨m,f,c⟩:=I.loc;obtain⟨u,r,l⟩:=c i x v a e g;have x:EP X j k Q u s:=⟨v,H,I,r,h⟩;rcases l with⟨a,e⟩|⟨a,g,h,c⟩
 show aam (YM I.ok.kind a f e x) b;rcases a with a|a
 show aam (wpAny_loadName_cell I.ok.kind a h c x) b;show aam (wpAny_loadName_free I.ok.kind a h c x d) b
theorem aO{i j pos}:PE X (.Constant (.int i) j pos) (tC (.int i)):=λ_ _ _ H _ I h=>wpAny_Constant_int ⟨.int i,H,I.tok _,⟨_,rfl⟩,h⟩
theorem kX{b j pos}:PE X (.Constant (.bool b) j pos) (tC (.bl b)):=λ_ _ _ H _ I h=>Constant_bool ⟨.bl b,H,I,rfl,h⟩
theorem iM{j pos}:PE X (.Constant .none j pos) (tC .non):=λ_ _ _ H _ I h=>Constant_none ⟨.non,H,I,rfl,h⟩
theorem cz{x j pos}:PE X (.Constant (.str x) j pos) (tC (.str x)):=λ_ _ _ H _ I h=>Calls.Constant_str ⟨.str x,H,I.tok _,⟨_,rfl⟩,h⟩
def Gl(X:Cx)(x:Str):Prop:=X.env.kindOf x=some .globalImplicit
theorem nT(I:Inv X pins a H s)(b:Gl X x)(c:X.mg x=some u)(h:Q u s)
 (a:autoParam ((x==("__debug__" :Str))=false) cL._auto_3):wpAny (model X.prog X.w) X.A (eval (.Name x d) X.env) Q E s:=
 aaI I.ok.kind b (Calls.loadGlobal_global (by rw[I.ok.glob];show I.mod.glob.keeps I.bk) c h) a
theorem qV(I:Inv X a d H s)(b:Gl X x)(c:X.mg x=none)(e:bootBuiltins x=some u)(h:Q u s)
 (d:autoParam (x≠"__name__") cL._auto_3) (a:autoParam ((x==("__debug__" :Str))=false) cL._auto_3):wpAny (model X.prog X.w) X.A (eval (.Name x f) X.env) Q E s:=by
 obtain⟨u,s,Q⟩:=I.mod.blt;show aaI I.ok.kind b (Calls.loadGlobal_builtin (by rw[I.ok.glob];show I.mod.glob.keeps I.bk) c (by rw[I.ok.blt];show s.keeps I.bk) ((Q x d).trans e) h) a
theorem BD(b:Gl X x)(c:X.mg x=some u)(r:RelV v u)(a:autoParam ((x==("__debug__" :Str))=false) cL._auto_3):PE X (.Name x h) (tC v):=
 λ_ _ _ H _ I h=>nT I b c ⟨v,H,I,r,h⟩ a
variable{a b:bx}{e f:TE}{d:Pos}
def PC(X:Cx)(e:CmpOp)(a b:bx)(t:TE):Prop:=
 ∀⦃d:ah (ai×aV)⦄(s:aq) (c:St) (H:Hp) (Q:VK),Inv X d c H s->t c H Q->
  wpAny (model X.prog X.w) X.A (eval a X.env) (λv H=>wpAny (model X.prog X.w) X.A (eval b X.env) (λu f=>wpAny (model X.prog X.w) X.A (compareOp e v u) (EP X d c Q) X.xe f) X.xe H) X.xe s
def tB(t:TE):TT:=λb H Q=>t b H λx a=>∃c,x= .bl c/\Q c a
theorem FQ{t:TE}(h:PC X c a b t)(e:autoParam (behindInMarks c b=false) cL._auto_4):PE X (.Compare a [c] [b] d) t:=λg s f H Q I hw=>wpAny_Compare1 (h s f H Q I hw) e
theorem gX{t:TE}(h:PC X g a b t)(c:autoParam (behindInMarks g b=false) cL._auto_4):PT X (.Compare a [g] [b] d) (tB t):=by intro g s q H Q I hw;show wpAny_isTrue_Compare1 (dz (h s q H _ I hw) λv k c=>dz c λu l f=>dz f λQ m⟨x,g,e,j,i⟩=> ?_) c;obtain⟨Q,rfl,q⟩:=i;cases j;show Yk ⟨g,e,q⟩
theorem dg{t:TE}(h:PE X c t)(b:autoParam (∀whole,isTrue c X.env whole=(do let v <- whole;standAt c.pos;holding [v] (truthy v))) cL._auto_5):PT X c (tB t):=by intro c s q H Q I hw;show isTrue_plain (dz (h s q H _ I hw) λv f⟨x,c,a,e,d⟩=> ?_) (b _);obtain⟨b,rfl,q⟩:=d;cases e;show Yk ⟨c,a,q⟩
variable{h i :TT}{g:ah bx}
def Q6(t u:TT):TT:=λb H Q=>t b H λc a=>if c=true then u b a Q else Q false a
def UO(t u:TT):TT:=λb H Q=>t b H λc a=>if c=true then Q true a else u b a Q
def Q7(t:TT):TT:=λb H Q=>t b H λc a=>Q (!c) a
theorem gY(f:PT X a h):PW X (.BoolOp .And [a] d) h:=by
 intro i e s g H Q I b;show isTrue_and (dz (f s g H Q I b) λc i e=> ?_);cases c with
 |true=>show isTrue_and_nil e
 |false=>show e
theorem FT(f:PT X a h):PW X (.BoolOp .Or [a] d) h:=by
 intro e c s g H Q I b;show isTrue_or (dz (f s g H Q I b) λc i e=> ?_);cases c with
 |false=>show isTrue_or_nil e
 |true=>show e
theorem gK(m:PT X a h)(n:PW X (.BoolOp .And (b::g) d) i):PW X (.BoolOp .And (a::b::g) d) (Q6 h i):=by
 intro e o s k H Q I l;show isTrue_and (dz (m s k H _ I l) λc p⟨e,f,j⟩=> ?_);cases c with
 |true=>show n o p k e Q f j
 |false=>show⟨e,f,j⟩
theorem J'(m:PT X a h)(n:PW X (.BoolOp .Or (b::g) d) i):PW X (.BoolOp .Or (a::b::g) d) (UO h i):=by
 intro c o s j H Q I l;show isTrue_or (dz (m s j H _ I l) λk p⟨c,e,f⟩=> ?_);cases k with
 |true=>show⟨c,e,f⟩
 |false=>show n o p j c Q e f
theorem gM(f:PT X a h):PT X (.UnaryOp .Not a d) (Q7 h):=by intro b s g H Q I e;show isTrue_not (dz (f s g H (λc b=>Q (!c) b) I e) λ_ _⟨_,I,q⟩=>⟨_,I,q⟩)
def Oe(e f:TE):TE:=λb H Q=>e b H λx a=>∃c,x= .bl c/\if c=true then f b a Q else Q (.bl false) a
def Q8(e f:TE):TE:=λb H Q=>e b H λx a=>∃c,x= .bl c/\if c=true then Q (.bl true) a else f b a Q
theorem ux{op}{t:TE}(h:PE X a t):PE X (.BoolOp op [a] d) t:=λc s b H Q I hw=>BoolOp_one (h s b H Q I hw)
theorem Ka(m:PE X a e)(n:PE X (.BoolOp .And (b::g) d) f):PE X (.BoolOp .And (a::b::g) d) (Oe e f):=by
 intro h s k H Q I l;show BoolOp_and (dz (m s k H _ I l) λv p⟨x,i,j,o,h⟩=> ?_);obtain⟨c,rfl,h⟩:=h;cases o;show Yk ?_;cases c with
 |true=>show n p k i Q j h
 |false=>show⟨.bl false,i,j,rfl,h⟩
theorem Kc(m:PE X a e)(n:PE X (.BoolOp .Or (b::g) d) f):PE X (.BoolOp .Or (a::b::g) d) (Q8 e f):=by
 intro h s k H Q I l;show BoolOp_or (dz (m s k H _ I l) λv p⟨x,i,j,o,h⟩=> ?_);obtain⟨c,rfl,h⟩:=h;cases o;show Yk ?_;cases c with
 |false=>show n p k i Q j h
 |true=>show⟨.bl true,i,j,rfl,h⟩
def UQ(t:TT)(e f:TE):TE:=λa H Q=>t a H λc b=>if c=true then e a b Q else f a b Q
theorem jP(q:PT X c h)(o:PE X a e)(p:PE X b f):PE X (.IfExp c a b d) (UQ h e f):=by
 intro i s g H Q I n;show wpAny_IfExp (dz (q s g H _ I n) λm l⟨i,j,k⟩=> ?_);cases m with
 |true=>show o l g i Q j k
 |false=>show p l g i Q j k
end
end L2
namespace L2
open PySem PySem.Spec PyProof.Rows
def bG(K:ay)(H:Hp)(b:ai)(xs:ah V):Prop:=
 Rd H b (.lst xs)∨
  ∃(o:aV)(a:Array ak)(n:Nat),K.lookup b=some o/\o.cls= .type "list"/\o.dict=none/\o.data= .seq a n/\a.size<=sizeLine/\bW xs a.toList
def dO(K:ay)(H:Hp)(b:ai)(xs:ah V):Prop:=
 Rd H b (.tup xs)∨
  ∃(o:aV)(a:Array ak)(n:Nat),K.lookup b=some o/\o.cls= .type "tuple"/\o.data= .seq a n/\a.size<=sizeLine/\bW xs a.toList
noncomputable def Ti:ak->az V
 | .none=>some .non
 | .bool b=>some (.bl b)
 | .int i _=>some (.int i)
 | .str x _=>some (.str x)
 | .bytes b _=>some (.Fq b)
 | .float b _=>some (.Sw b)
 | .ref a=>some (.ref a)
 | .type n=>some (.ty n)
 |_=>none
theorem RelV.abs(r:RelV x u):Ti u=some x:=by
 cases x with
 |non=>cases r;rfl
 |bl _=>cases r;rfl
 |int _=>obtain⟨t,rfl⟩:=r;rfl
 |str _=>obtain⟨t,rfl⟩:=r;rfl
 |Fq _=>obtain⟨t,rfl⟩:=r;rfl
 |Sw _=>obtain⟨t,rfl⟩:=r;rfl
 |ref _=>cases r;rfl
 |ty _=>cases r;rfl
theorem RelV.inj(r:RelV x u)(q:RelV y u):x=y:=W5 (r.abs.symm.trans q.abs)
theorem bW.inj(h:bW xs b)(k:bW a b):xs=a:=by
 induction h generalizing a with
 |nil=>cases k;rfl
 |cons r _ a=>
  cases k with
  |cons h t' =>rw[r.inj h,a t']
section
variable{X:Cx}{pins:ah (ai×aV)}{b:St}{H:Hp}{s:aq}{a:ai}{xs c:ah V}
theorem bG.of{K:ay}(h:H a=some (.lst xs)):bG K H a xs:= .inl (.inl h)
theorem dO.of{K:ay}(h:H a=some (.tup xs)):dO K H a xs:= .inl (.inl h)
theorem Inv.list(I:Inv X pins b H s)(h:bG X.K H a xs):∃c,bW xs c/\PlainL s.heap a c.toArray/\xs.length<=sizeLine:=by
 rcases h with h|⟨o,c,n,g,d,f,i,hz,r⟩
 obtain⟨z,c,n,r,e⟩:=h.ok I.dD;show⟨c,r,⟨_,n,e,rfl,rfl,rfl⟩,z⟩;show⟨c.toList,r,⟨o,n,I.ur a o g,d,f,by simpa using i⟩,?_⟩;have e:=r.length;simp only[Yz]at e
 lia
theorem Inv.tuple(I:Inv X pins b H s)(h:dO X.K H a xs):∃c,bW xs c/\IsTup s.heap a c.toArray/\xs.length<=sizeLine:=by
 rcases h with h|⟨o,c,n,d,e,f,hz,r⟩
 obtain⟨z,c,r,p⟩:=h.ok I.dD;show⟨c,r,p,z⟩;show⟨c.toList,r,⟨o,I.ur a o d,e,n,by simpa using f⟩,?_⟩;have e:=r.length;simp only[Yz]at e
 lia
theorem Inv.Dk(I:Inv X pins b H s)(h:bG X.K H a xs)(i :bG X.K H a c):xs=c:=by
 obtain⟨j,r,⟨o,n,g,_,_,f⟩,_⟩:=I.list h;obtain⟨h,k,⟨o,n,e,_,_,d⟩,_⟩:=I.list i;rw[g]at e;cases e;rw[f]at d;injection d with e _
 have:j=h :=by simpa using XE Array.toList e
 subst this;show r.inj k
end
section
variable{X:Cx}{a:ah (ai×aV)}{b:St}{H:Hp}{s:aq}{E:ak->aq->Prop}
end
section
variable{X:Cx}{st:b7}{d:ah b7}{t u:TS}{e:bx}{b:TE}{a:Pos}
def Kd:TS:=λD a H=>D.nx a H
def Q9(t u:TS):TS:=λD a H=>t {D with nx:=u D} a H
theorem aN:Dj X [] Kd:=λ_ _ a H _ I h=>Zw ⟨a,H,I,h⟩
theorem aE(c:PS X st t)(e:Dj X d u):Dj X (st::d) (Q9 t u):=by
 intro k s i H D I h;show aan (dz (c s i H {D with nx:=u D} I h) λf g q=> ?_);cases f with
 |next=>obtain⟨j,a,b,q⟩:=q;show e g j a D b q
 |ret v=>show q
 |brk=>show q
 |cont=>show q
theorem au(a:PS X st t):Dj X [st] t:=by
 intro c s b H D I h;show aan (dz (a s b H D I h) λf d q=> ?_);cases f with
 |next=>show Zw q
 |ret v=>show q
 |brk=>show q
 |cont=>show q
def Ke:TS:=λD a H=>D.bk a H
theorem Kf:PS X (.Break a) Ke:=λ_ _ b H _ I h=>wpAny_Break ⟨b,H,I,h⟩
theorem Inv.quiet(I:Inv X c f H s):interactive X.env=false:=by simp[interactive,I.ok.kind]
def Og(b:TE):TS:=λD a H=>b a H λ_ c=>D.nx a c
theorem bP(g:PE X e b)(i:autoParam (swapsWith e none a.line X.env=pure false) cL._auto_6):PS X (.Expr e a) (Og b):=by intro d s c H D I h;show wpAny_Expr_any (dz (g s c H _ I h) λv l⟨x,d,f,k,j⟩=>⟨c,d,f,j⟩) I.quiet i
def Q_(b:TE):TS:=λD a H=>b a H D.rt
theorem aJ(g:PE X e b):PS X (.Return (some e) a) (Q_ b):=by intro d s c H D I h;show wpAny_Return_some (dz (g s c H _ I h) λv k⟨x,d,f,j,i⟩=>⟨x,c,d,f,j,i⟩)
def Oh:TS:=λD _ H=>D.rt .non H
theorem Ht:PS X (.Return none a) Oh:=λ_ _ b H _ I h=>wpAny_Return_none ⟨.non,b,H,I,rfl,h⟩
def O_(d:TT)(t u:TS):TS:=λD a H=>d a H λc b=>if c=true then t D a b else u D a b
theorem bz(l:PT X c h)(j:Dj X f t)(k:Dj X g u):PS X (.If c f g a) (O_ h t u):=by
 intro f s b H D I i;show wpAny_If (dz (l s b H _ I i) λh g⟨d,e,f⟩=> ?_);cases h with
 |true=>show j g b d D e f
 |false=>show k g b d D e f
end
abbrev TG:=V->St->Hp->(St->Hp->Prop)->Prop
abbrev QH:=ah V->St->Hp->(St->Hp->Prop)->Prop
def PG(X:Cx)(b:bx)(t:TG):Prop:=
 ∀⦃pins:ah (ai×aV)⦄(s:aq) (a:St) (H:Hp) (v:V) (u:ak) (Q:St->Hp->Prop),Inv X pins a H s->RelV v u->t v a H Q->
  wpAny (model X.prog X.w) X.A (assign b X.env u) (λ_=>GP X pins Q) X.xe s
def SD(X:Cx)(e:ah bx)(t:QH):Prop:=
 ∀⦃a:ah (ai×aV)⦄(s:aq) (d:St) (H:Hp) (c:ah V) (b:ah ak) (Q:St->Hp->Prop),Inv X a d H s->bW c b->t c d H Q->
  wpAny (model X.prog X.w) X.A (assignInOrder ((assignEach e X.env).map (·.2)) b) (λ_=>GP X a Q) X.xe s
abbrev SG:=V->V->Hp->VK->Prop
def UR(X:Cx)(c:Operator)(t:SG):Prop:=
 ∀⦃a:ah (ai×aV)⦄(s:aq) (b:St) (H:Hp) (x y:V) (v u:ak) (Q:VK),Inv X a b H s->RelV x v->RelV y u->t x y H Q->
  wpAny (model X.prog X.w) X.A (inplaceOp c v u) (EP X a b Q) X.xe s
section
variable{X:Cx}{a:Pos}
def mz(i:Nat):TG:=λv a H Q=>Q (a.set i (some v)) H
theorem bh i(c:X.N.Nodup)(e:autoParam (X.N[i]? =some x) cL._auto_6)(f:autoParam (Loc X.env.scope x) cL._auto_7)(d:autoParam (X.fn x=true∨X.env.scope.names.lookup x=some .local) cL._auto_2):PG X (.Name x a) (mz i):=by intro b s g H v u Q I r h;show wpAny_assign_Name (uw I c e f r (λQ b =>⟨_,H,b,h⟩) d)
def Ra:QH:=λa b H Q=>a=[]/\Q b H
def Kg(t:TG)(u:QH):QH:=λb c H Q=>∃v r,b=v::r/\t v c H λd a =>u r d a Q
theorem eO:SD X [] Ra:=by intro e s a H c b Q I r h;obtain⟨e,h⟩:=h;subst e;cases r;show assignInOrder_nil ⟨a,H,I,h⟩
theorem bU{t:TG}(a:PG X e t)(c:SD X b u)
 (d:autoParam ((assignEach (e::b) X.env).map (·.2)=assign e X.env::(assignEach b X.env).map (·.2)) cL._auto_6):SD X (e::b) (Kg t u):=by
 intro b s u H f e Q I r h;obtain⟨v,e,b,h⟩:=h;subst b;cases r with
 |cons r f=>rw[d];show assignInOrder_cons (dz (a s u H _ _ _ I r h) λ_ g⟨i,b,e,d⟩=> ?_);show c g i b _ _ Q e f d
def Kh(K:ay)(n:Nat)(t:QH):TG:=λv b H Q=>∃a xs,v= .ref a/\dO K H a xs/\xs.length=n/\t xs b H Q
theorem gf{k:Nat}{t:QH}(d:X.calm=true)(h:SD X I t)
 (f:autoParam ((assignEach I X.env).length=n) cL._auto_6) (i:autoParam ((assignEach I X.env).findIdx? (·.1)=none) cL._auto_6):PG X (.Tuple I k a) (Kh X.K n t):=by
 intro o s l H v u Q I r hw;obtain⟨j,xs,c,g,e,hw⟩:=hw;subst c;cases r;obtain⟨m,c,j,o⟩:=I.tuple g;show assign_Tuple_tuple (I.ok.hd d) j (by simp[f,<- e,c.length]) i λo g=> ?_;have d:=I.kept (t' :=s.toks) λb o e=>g b o (W6 (WR e)) e;show h _ l H xs _ Q d (by simpa using c) hw
def Pa(c:TE)(g:TG):TS:=λD a H=>c a H λx b=>g x a b D.nx
theorem aP i(c:X.N.Nodup)(d:PE X e b)(g:autoParam (X.N[i]? =some x) cL._auto_6)(k:autoParam (Loc X.env.scope x) cL._auto_7)(j:autoParam (swapsWith e (some (.Name x H)) a.line X.env=pure false) cL._auto_6)(f:autoParam (X.fn x=true∨X.env.scope.names.lookup x=some .local) cL._auto_2):
 PS X (.Assign [.Name x H] e a) (Pa b (mz i)):=by
 intro b s n H D I h;show wpAny_Assign_Name (dz (d s n H _ I h) λv o⟨y,e,b,m,l⟩=> ?_) j;show uw b c g k m (λd H=>⟨_,e,H,l⟩) f
def Rb(i:Nat)(d:TE)(e:SG):TS:=λD a H=>∃x,a[i]? =some (some x)/\d a H λy b=>e x y b λz c=>D.nx (a.set i (some z)) c
theorem FU i(g:X.N.Nodup)(j:PE X e h)(o:UR X d q)(b:autoParam (X.N[i]? =some x) cL._auto_6)(c:autoParam (Loc X.env.scope x) cL._auto_7)(l:autoParam (X.fn x=true∨X.env.scope.names.lookup x=some .local) cL._auto_2):
 PS X (.AugAssign (.Name x s) d e a) (Rb i h q):=by
 intro q s f H D I h;obtain⟨v,w,h⟩:=h;obtain⟨t,n,m⟩:=I.loc;have t:QF X.env.scope x:=by rcases c with k|k;show .inl k;show .inr (.inl k)
 obtain⟨u,r,p⟩:=m i x v b w t;show wpAny_AugAssign_Name ?_;have i:wpAny (model X.prog X.w) X.A (eval e X.env) (λw m=>wpAny (model X.prog X.w) X.A (inplaceOp d u w) (λr t=>wpAny (model X.prog X.w) X.A (storeName X.env x r) (λ_=>SP X q D .next) X.xe t) X.xe m) X.xe s:=by show dz (j s f H _ I h) λw t⟨y,d,D,q,m⟩=> ?_;show dz (o t f d v y u w _ D r q m) λz H⟨A,e,h,s,j⟩=> ?_;show uw h g b c s (λm d=>⟨_,e,d,j⟩) l
 rcases p with⟨b,h⟩|⟨b,m,d,e⟩
 show YM I.ok.kind b n h i;rcases b with b|b
 show wpAny_loadName_cell I.ok.kind b d e i;rcases c with k|k
 have:X.env.scope.names.lookup x=some .free:=b;rw[k]at this;cases this;have:X.env.scope.names.lookup x=some .free:=b;rw[k]at this;cases this
def UT(f:Int->Int->Int):SG:=λx y H Q=>∃i j,x= .int i/\y= .int j/\Q (.int (f i j)) H
theorem FW:UR X .Add (UT λi j=>i+j):=by intro a s b H x y v u Q I c d h;obtain⟨i,j,a,b,q⟩:=h;subst a;subst b;obtain⟨t,rfl⟩:=c;obtain⟨a,rfl⟩:=d;show iadd_int ⟨.int _,H,I.tok _,⟨_,rfl⟩,q⟩
end
section
variable{X:Cx}{a:Pos}
def Pb(g:TT)(h:TS):TS:=λD a H=>∃W:Nat->St->Hp->Prop,(∃m,W m a H)/\∀m a H,W m a H->
 g a H λf c=>if f=true then∃N:St->Hp->Prop,(∀e b,N e b->∃d,d <m/\W d e b)/\h {D with nx:=N,ct:=N,bk:=D.nx} a c else D.nx a c
theorem jQ(q:PassesOwn (model X.prog X.w) X.A X.env X.xe)(y:PT X v E)(x:Dj X u D):PS X (.While v u [] a) (Pb E D):=by
 intro A M K H L I w;obtain⟨W,⟨z,G⟩,F⟩:=w;show wpAny_While (codeAny_whileLoop (λn=>GP X A (W n)) ?_ z ⟨K,H,I,G⟩);rintro n B ⟨f,l,r,J⟩;show Y_ q (dz (y B f l _ r (F n f l J)) λs C⟨m,o,d⟩=> ?_);cases s with
 |true=>
  obtain⟨N,p,d⟩:=d;rw[Wt rfl];show Y_ q (dz (x C f m _ o d) λt O e=> ?_);cases t with
  |next=>obtain⟨c,b,g,j⟩:=e;obtain⟨i,h,k⟩:=p c b j;show⟨i,h,c,b,g,k⟩
  |cont=>obtain⟨c,b,g,j⟩:=e;obtain⟨i,h,k⟩:=p c b j;show⟨i,h,c,b,g,k⟩
  |brk=>show e
  |ret P=>show e
 |false=>rw[Wn W3];show Zw ⟨f,m,o,d⟩
end
structure It where
 go:Nat->Hp->Prop
 BE:Nat->Hp->V->Hp->Prop
 stop:Nat->Hp->Prop
def uy(X:Cx)(pins:ah (ai×aV))(H:Hp)(b:ai):Prop:=
 H b=none/\b≠X.env.locals/\b∉X.fs/\(b∈X.ex∨X.s8.heap.objs.size<=b)/\(∀x c,X.env.cells.lookup x=some c->c≠b)/\∀p∈X.pn++pins,p.1≠b
theorem Inv.I1(I:Inv X pins c H s)(a:s.heap.objs.size<=b)(d:z b=none):uy X pins z b:=by show⟨d,YH (W4 I.lt a),I.Tg a,.inr (Xi I.sz a),λx c e z=> ?_,λp b z=> ?_⟩;obtain⟨v,q⟩:=I.cell x c e;show absurd (W4 q.lt (by rw[z];show a)) (X9 _);show absurd (W4 (WR (I.pin p b).1) (by rw[z];show a)) (X9 _)
structure qW(P:aS)(w:aU)(K:ay)(tg:bx)(J:It)(fp:ah ai)(it:ai)(tn:Nat->aX->Prop):Prop where
 mem:it∈fp
 obj:∀i h,tn i h->∀b∈fp,∃o,h.get? b=some o/\∀v,o.data≠.cell v
 keep:∀i h h',tn i h->(∀b∈fp,∀o,h.get? b=some o->h'.get? b=some o)->tn i h'
 item:∀(X:Cx),X.prog=P->X.w=w->X.K=K->X.calm=true->∀(i:Nat)(pins:ah (ai×aV))(s:aq)(σ:St)(H:Hp)(E:ak->aq->Prop),Inv X pins σ H s->(∀b∈fp,uy X pins H b)->tn i s.heap->J.go i H->
  wpAny (model P w) X.A (pyNext (.ref it)) (λr s1=>∃u,r=some u/\
   wpAny (model P w) X.A (letOwnedTupleGo tg (.ref it) u) (λ_ s2=>∃x H',Inv X pins σ H' s2/\RelV x u/\J.BE i H x H'/\tn (i+1) s2.heap/\∀b∈fp,H' b=none) E s1) E s
 done:∀(X:Cx),X.prog=P->X.w=w->X.K=K->X.calm=true->∀(i:Nat)(pins:ah (ai×aV))(s:aq)(σ:St)(H:Hp)(E:ak->aq->Prop),Inv X pins σ H s->(∀b∈fp,uy X pins H b)->tn i s.heap->J.stop i H->
  wpAny (model P w) X.A (pyNext (.ref it)) (λr s1=>r=none/\Inv X pins σ H s1) E s
 self:∀(A:bC)(i:Nat)(s:aq)(Q:ak->aq->Prop)(E:ak->aq->Prop),tn i s.heap->Q (.ref it) s->wpAny (model P w) A (pyIter (.ref it)) Q E s
abbrev TI:=St->Hp->(It->Hp->Prop)->Prop
def QI(X:Cx)(d:ah (ai×aV))(j:St)(i:bx)(R:It->Hp->Prop)(h:ak)(e:aq):Prop:=
 ∃(c:ai)(b:ah ai)(f:Nat->aX->Prop)(J:It)(a :Hp),h= .ref c/\Inv X d j a e/\qW X.prog X.w X.K i J b c f/\f 0 e.heap/\(∀g∈b,uy X d a g)/\R J a
def PI(X:Cx)(b iter:bx)(c:TI):Prop:=
 ∀⦃pins:ah (ai×aV)⦄(s:aq) (a:St) (H:Hp) (R:It->Hp->Prop),Inv X pins a H s->c a H R->
  wpAny (model X.prog X.w) X.A (eval iter X.env) (λv H=>wpAny (model X.prog X.w) X.A (pyIter v) (QI X pins a b R) X.xe H) X.xe s
theorem uz(c:s.heap.get? d=some o)(h:o.cls= .type n)(b:o.data= .fields f)
 (o:["enumerate","zip","dict_itemiterator","dict_reverseitemiterator","odict_iterator","itertools.zip_longest","itertools.pairwise"].contains n=false) (a:Q () s):wpAny M A (letOwnedTupleGo e (.ref d) u) Q E s:=by
 unfold letOwnedTupleGo
 cases e<;>first
  |show Ww a
  |(cases u<;>first
     |show Ww a
     |(show Wm (wpAny_load c ?_)
       rw[h,b];change wpAny M A (if(["enumerate","zip","dict_itemiterator","dict_reverseitemiterator","odict_iterator","itertools.zip_longest","itertools.pairwise"].contains n&&f[0]? ==some (rawInt _))=true then _ else _) Q E s;rw[Wn (by intro h;rw[o,aaJ]at h;cases h)];show Ww a))
def CG(K:ay)(a:ai):It:=
 ⟨λi H=>∃xs x,bG K H a xs/\xs[i]? =some x,λi H x b =>b =H/\∀xs,bG K H a xs->xs[i]? =some x,λi H=>∃xs,bG K H a xs/\xs.length<=i⟩
def SJ(lo:Int)(n:Nat):It:=⟨λi _=>i<n,λi H x a =>a =H/\x= .int (lo+i),λi _=>n<=i⟩
theorem I2{K:ay} a c:qW P w K z (CG K a) [c] c (λi h=>h.IsListIter c a i)where
 mem:=by simp
 obj:=λi h st b a=>by
  have e:b=c:=by simpa using a
  subst e;obtain⟨o,e,y,g⟩:=st;show⟨o,e,λv z=>by rw[g]at z;cases z⟩
 keep:=λi h p st k=>st.at λo e=>k c (by simp) o e
 item:=by intro X r hw q z i L s O H E I d st t;subst r hw q;obtain⟨N,x,f,u⟩:=t;obtain⟨J,w,v,G⟩:=I.list f;obtain⟨B,C,M⟩:=w.get u;obtain⟨j,k,D,l,m,n⟩:=d c (by simp);show wpAny_pyNext_list_item st v.isList (x:=B) (by simpa using C) λp A F=> ?_;have C:=I.turned (t' :=s.toks) (λb o a e=>(F.2 b a).trans e) j k l m n;obtain⟨o,e,y,g⟩:=id A;show⟨B,rfl,uz (s:={s with heap:=p}) e y g (by decide) ⟨x,H,C,M,⟨rfl,λP F=>by rw[I.Dk F f];show u⟩,A,λb a=>(d b a).1⟩⟩
 done:=by intro X r hw q z i L s O H E I d st t;subst r hw q;obtain⟨N,f,u⟩:=t;obtain⟨J,w,v,G⟩:=I.list f;obtain⟨j,k,D,l,m,n⟩:=d c (by simp);have c:=w.length;show wpAny_pyNext_list_end (I.ok.hd z) st v.isList (by simp;lia) λp c=>⟨rfl,I.turned (t' :=s.toks) (λb o a e=>c b o a e) j k l m n⟩
 self:=λ_ _ _ _ _ st h=>wpAny_pyIter_listiter st h
theorem FY{K:ay} a lo n:qW P w K y (SJ lo n) [a] a (λi h=>IsRangeIter h a (lo+(i:Nat)*1) ((n:Int)-(i:Nat)) 1)where
 mem:=by simp
 obj:=λi h st b c=>by
  have e:b=a:=by simpa using c
  subst e;show⟨_,st,λt z=>by have k :Data.fields _=Data.cell t:=z;cases k⟩
 keep:=λi h d st k=>k a (by simp) _ st
 item:=by intro X p hw o q i u s x H E I f st r;subst p hw o;obtain⟨g,j,z,k,l,m⟩:=f a (by simp);have W:=Walks.range (prog:=X.prog) (w:=X.w) (I.ok.hd q) a lo 1 n;show W.item i s _ _ r st λt d tk y v kk=> ?_;obtain⟨W,rfl⟩:=y;have y:Inv X u x H {s with heap:=d,toks:=tk}:=I.turned (λb t c e=>kk b t (by simpa using c) e) g j k l m;show⟨_,rfl,uz (s:={s with heap:=d,toks:=tk}) (n:= "range_iterator") v rfl rfl (by decide) ⟨.int (lo+i),H,y,⟨W,?_⟩,⟨rfl,rfl⟩,v,λb c=>(f b c).1⟩⟩;rw[Int.mul_one]
 done:=by intro X p hw o q i u s x H E I f st r;subst p hw o;obtain⟨g,j,z,k,l,m⟩:=f a (by simp);show wpAny_pyNext_range_end (I.ok.hd q) st (by have:n<=i:=r;lia) λd a=>⟨rfl,I.turned (t' :=s.toks) (λb t c e=>a b t c e) g j k l m⟩
 self:=λ_ _ _ _ _ st h=>wpAny_pyIter_rangeiter st h
end L2
namespace L2
open PySem PySem.Spec PyProof.Rows
section
variable{X:Cx}{a:bx}
def Rc(K:ay)(tl:TE):TI:=λd H R=>tl d H λx b=>∃a,x= .ref a/\(∃c,bG K b a c)/\R (CG K a) b
theorem cC{tl:TE}(e:PE X l tl):PI X a l (Rc X.K tl):=by
 intro g s q H R I h;show dz (e s q H _ I h) λv d⟨x,f,c,i,g⟩=> ?_;obtain⟨H,e,⟨xs,h⟩,q⟩:=g;subst e;cases i;obtain⟨i,I,p,g⟩:=c.list h;show aaV p.isList ?_;show⟨d.heap.objs.size,[d.heap.objs.size],_,_,f,rfl,c.kept (t' :=d.toks) λb o e=>Wv _ e,I2 H _,⟨_,WH _ rfl,rfl,rfl⟩,λb h=> ?_,q⟩;have e:b=d.heap.objs.size:=by simpa using h
 subst e;show c.I1 (Wu _) (c.dD.fresh (Wu _))
theorem Kl{lo b:Int}{t u v:Tok}{tk:Nat}(I:Inv X f g H s)(c: -(2 ^ 62)<=lo)(d:lo<2 ^ 62)(e: -(2 ^ 62)<=b)(h:b<2 ^ 62)
 (q:R (SJ lo (b-lo).toNat) H):wpAny (model X.prog X.w) X.A (pyIter (.ref s.heap.objs.size)) (QI X f g a R) E {s with heap:=s.heap.push {cls:= .type "range",data:= .fields #[.int lo t,.int b u,.int 1 v]},toks:=tk}:=by
 show wpAny_pyIter_range (IsRange.new ..) (small_one c d e h) ?_;have c:Inv X f g H {s with heap:=s.heap.push {cls:= .type "range",data:= .fields #[.int lo t,.int b u,.int 1 v]},toks:=tk}:=I.kept λd o e=>Wv _ e
 show⟨(s.heap.push {cls:= .type "range",data:= .fields #[.int lo t,.int b u,.int 1 v]}).objs.size,[(s.heap.push {cls:= .type "range",data:= .fields #[.int lo t,.int b u,.int 1 v]}).objs.size],_,_,H,rfl,
  c.kept (t' :=tk) λd o e=>Wv _ e,FY _ lo (b-lo).toNat,?_,λd h=> ?_,q⟩
 have f:lo+((0:Nat):Int)*1=lo:=by simp
 have g:(((b-lo).toNat:Nat):Int)-((0:Nat):Int)=Builtin.Range.rangeSize lo b 1:=by rw[rangeSize_one];split<;>lia
 rw[f,g];show WH _ rfl;have e:d=(s.heap.push {cls:= .type "range",data:= .fields #[.int lo t,.int b u,.int 1 v]}).objs.size:=by simpa using h
 subst e;show c.I1 (Wu _) (c.dD.fresh (Wu _))
def Rf(b:TA):TI:=λd H R=>b d H λc a=>∃j:Int,c=[.int j]/\-(2 ^ 62)<=j/\j<2 ^ 62/\R (SJ 0 j.toNat) a
theorem I3(d:Gl X "range")(f:X.mg "range" =none)(e:PA X [b] r)(g:autoParam (starEach [b] X.env=[(false,eval b X.env)]) cL._auto_6):PI X a (.Call (.Name "range" p) [b] [] j) (Rf r):=by
 intro i s q H R I h;show Call_ (qV I d f boot_range (Ys (dz (e i s q H _ I h) λt p⟨R,j,c,r,b⟩=> ?_) g rfl));obtain⟨j,e,b,d,q⟩:=b;subst e;cases r with
 |cons r e=>cases e;obtain⟨t,rfl⟩:=r;show call_range_1 (Kl c (by lia) (by lia) b d (by simpa using q))
def Tj(c:TI)(g:TG)(f:TS):TS:=λD a H=>c a H λJ b=>∃W:Nat->Nat->St->Hp->Prop,(∃m,W 0 m a b)/\∀i m a H,W i m a H->
 (J.stop i H/\D.nx a H)∨(J.go i H/\∃N:St->Hp->Prop,(∀d b,N d b->∃c,c <m/\W (i+1) c d b)/\∀x b,J.BE i H x b->g x a b λh e=>f {D with nx:=N,ct:=N,bk:=D.nx} h e)
def uA(a:ah ai)(h:aX):ah (ai×aV):=a.filterMap λb=>(h.get? b).map λo=>(b,o)
theorem pB(a:b∈c)(e:h.get? b=some o):(b,o)∈uA c h:=ZX.mpr ⟨b,a,by rw[e];rfl⟩
theorem I4(f:p∈uA c h):p.1∈c/\h.get? p.1=some p.2:=by
 obtain⟨b,d,e⟩:=ZX.mp f;cases q:h.get? b with
 |none=>rw[q]at e;cases e
 |some o=>rw[q]at e;have a :=W5 e;subst a;show⟨d,q⟩
theorem Inv.pinned(I:Inv X pins z H s)(d:∀b∈e,uy X pins H b)(a:∀b∈e,∃o,s.heap.get? b=some o/\∀v,o.data≠.cell v):Inv X (pins++uA e s.heap) z H s:=
 I.Hs λp b=>(W0.mp b).elim (λz=>I.pin p (XH _ z)) λz=>by obtain⟨s,e⟩:=I4 z;obtain⟨z,H,I,_⟩:=d p.1 s;obtain⟨o,b,d⟩:=a p.1 s;rw[e]at b;cases b;show⟨e,z,H,I,d⟩
theorem Inv.pZ(I:Inv X (pins++c) b H s):Inv X pins b H s:=I.Hs λp a=>I.pin p (XH _ (Xw _ a))
theorem cS(q:PassesOwn (model X.prog X.w) X.A X.env X.xe)(I:X.calm=true)(xH:PI X a iter ya)(xG:PG X a g)(e:Dj X xr xX)
 (xM:autoParam (∀x,foldedSetIterable iter X.env x=pure x) cL._auto_5):PS X (.For a iter xr [] yh) (Tj ya g xX):=by
 intro l s R S D Y xA;show wpAny_For (dz (xH s R S _ Y xA) λv yi xB=>dz xB λyg yj xC=> ?_) xM;obtain⟨yf,p,Q,J,U,m,Z,T,xV,G,W,⟨xO,x6⟩,xY⟩:=xC;subst m;have C:∀{j :Hp},(∀b∈p,j b=none)->∀b∈p,uy X l j b:=λxK b e=>⟨xK b e,(G b e).2⟩;show codeAny_forLoop_any (λn L =>∃i u j,Inv X l u j L/\Q i L.heap/\(∀b∈p,j b=none)/\W i n u j) ?_ xO ⟨0,R,U,Z,xV,λb e=>(G b e).1,x6⟩;rintro n M ⟨i,w,y,F,P,H,x8⟩;rcases xY i n w y x8 with⟨xW,xQ⟩|⟨xx,N,xF,step⟩
 show Y_ q (dz (T.done X rfl rfl rfl I i l M w y X.xe F (C H) P xW) λr xT⟨z,xg⟩=> ?_);subst z;show Zw ⟨w,y,xg,xQ⟩
 . show Y_ q (dz (T.item X rfl rfl rfl I i l M w y X.xe F (C H) P xx) λr xT⟨xZ,z,xE⟩=> ?_);subst z;show Y_ q (dz xE λ_ O⟨x,E,xh,xR,yc,B,xu⟩=> ?_);have xj :=xh.pinned (C xu) (T.obj _ _ B);show Y_ q (dz (xG O w E x xZ _ xj xR (step x E yc)) λ_ xU⟨yd,V,xq,xP⟩=> ?_);show Y_ q (dz (e xU yd V _ xq xP) λf A k=> ?_);have again:∀{h:St}{c:Hp},Inv X (l++uA p O.heap) h c A->N h c->∃K,K<n/\∃i u j,Inv X l u j A/\Q i A.heap/\(∀b∈p,j b=none)/\W i K u j :=λ{h c} d t=>(by obtain⟨xN,xJ,x9⟩:=xF h c t;show⟨xN,xJ,i+1,h,c,d.pZ,T.keep _ _ _ B λb e o m=>(d.pin (b,o) (XH _ (XH _ (pB e m)))).1,λb e=> ?_,x9⟩;obtain⟨o,m,ye⟩:=T.obj _ _ B b e;show(d.pin (b,o) (XH _ (XH _ (pB e m)))).2.1);cases f with
   |next=>obtain⟨h,c,d,t⟩:=k;show again d t
   |cont=>obtain⟨h,c,d,t⟩:=k;show again d t
   |brk=>obtain⟨h,c,d,k⟩:=k;show⟨h,c,d.pZ,k⟩
   |ret v=>obtain⟨yb,h,c,d,xS,k⟩:=k;show⟨yb,h,c,d.pZ,xS,k⟩
end
theorem dN{K:ay}{d:ai}{xs:ah V}{g:TG}{h:TS}{D:w5}{a:St}{H:Hp}(b:Nat->St->Hp->Prop)(j:b 0 a H)(l:∀i a H,i<=xs.length->b i a H->bG K H d xs)
 (n:∀i x a H,xs[i]? =some x->b i a H->g x a H λq e=>h {D with nx:=b (i+1),ct:=b (i+1),bk:=D.nx} q e) (k:∀a H,b xs.length a H->D.nx a H):
 ∃W:Nat->Nat->St->Hp->Prop,(∃m,W 0 m a H)/\∀i m a H,W i m a H->
  ((CG K d).stop i H/\D.nx a H)∨((CG K d).go i H/\∃N:St->Hp->Prop,(∀f c,N f c->∃y,y <m/\W (i+1) y f c)/\∀x c,(CG K d).BE i H x c->g x a c λq e=>h {D with nx:=N,ct:=N,bk:=D.nx} q e):=by
 show⟨λi m a H=>m=xs.length-i/\i<=xs.length/\b i a H,⟨xs.length,by simp,Xb _,j⟩,?_⟩;rintro i m a H ⟨rfl,e,p⟩;have q:=l i a H e p;by_cases e:i<xs.length;show .inr ⟨⟨xs,xs[i],q,by simp[e]⟩,b (i+1),λf c d =>⟨xs.length-(i+1),Ye _ _ e,rfl,e,d⟩,λx c y=> ?_⟩;obtain⟨e,y⟩:=y;subst e;show n i x a _ (y xs q) p;have e:i=xs.length:=by lia
 subst e;show .inl ⟨⟨xs,q,Wu _⟩,k a H p⟩
end L2
namespace L2
open PySem PySem.Spec PyProof.Rows
abbrev R2:=V->V->Hp->VK->Prop
def pR(X:Cx)(f:ak->ak->Sem ak)(r:R2):Prop:=
 ∀⦃a:ah (ai×aV)⦄(s:aq) (b:St) (H:Hp) (x y:V) (v u:ak) (Q:VK),Inv X a b H s->RelV x v->RelV y u->r x y H Q->
  wpAny (model X.prog X.w) X.A (f v u) (EP X a b Q) X.xe s
def Tn(X:Cx)(f:ak->Sem ak)(r:V->Hp->VK->Prop):Prop:=
 ∀⦃a:ah (ai×aV)⦄(s:aq) (b:St) (H:Hp) (x:V) (v:ak) (Q:VK),Inv X a b H s->RelV x v->r x H Q->
  wpAny (model X.prog X.w) X.A (f v) (EP X a b Q) X.xe s
def fz(X:Cx)(f:ak)(r:ah V->Hp->VK->Prop):Prop:=
 ∀⦃a:ah (ai×aV)⦄(s:aq) (c:St) (H:Hp) (xs:ah V) (b:ah ak) (Q:VK),Inv X a c H s->bW xs b->r xs H Q->
  wpAny (model X.prog X.w) X.A (call f b) (EP X a c Q) X.xe s
def Pg(r:R2)(d e:TE):TE:=λa H Q=>d a H λx b=>e a b λy c=>r x y c Q
def UU(r:V->Hp->VK->Prop)(b:TE):TE:=λc H Q=>b c H λx a=>r x a Q
def rI(C:Int->Int->Prop)(g:Int->Int->V):R2:=λx y H Q=>∃i j,x= .int i/\y= .int j/\C i j/\Q (g i j) H
def M3(g:Int->Int->V):R2:=λx y H Q=>∃i j,x= .int i/\y= .int j/\Q (g i j) H
def rU(g:Int->V):V->Hp->VK->Prop:=λx H Q=>∃i,x= .int i/\Q (g i) H
section
variable{X:Cx}{a b c:bx}{d e g:TE}{f:Pos}
theorem Ph(l:PE X a d)(m:PE X b e){j:ah (ai×aV)}{s:aq}{f:St}{H:Hp}{R:V->V->Hp->Prop}(I:Inv X j f H s)
 (k:d f H λx h=>e f h λy c=>R x y c) {Q:ak->aq->Prop} {i:ak->ak->Sem ak}
 (n:∀v u g x y c,Inv X j f c g->RelV x v->RelV y u->R x y c->wpAny (model X.prog X.w) X.A (i v u) Q X.xe g):
 wpAny (model X.prog X.w) X.A (eval a X.env) (λv j=>wpAny (model X.prog X.w) X.A (eval b X.env) (λu R=>wpAny (model X.prog X.w) X.A (i v u) Q X.xe R) X.xe j) X.xe s:=by
 show dz (l s f H _ I k) λv o⟨x,h,i,R,Q⟩=> ?_;show dz (m o f h _ i Q) λu g⟨y,c,j,l,k⟩=> ?_;show n v u g x y c j R l k
theorem ef{c:Operator}{r:R2}(k:pR X (binaryOp c) r)(i:PE X a d)(j:PE X b e):PE X (.BinOp a c b f) (Pg r d e):=by intro c s o H Q I h;show wpAny_BinOp (Ph i j I h λv u n x y c g l m q=>k n o c x y v u Q g l m q)
theorem Oi(i:Tn X (unaryOp h) r)(g:PE X a d):PE X (.UnaryOp h a f) (UU r d):=by intro c s b H Q I h;show UnaryOp_ (dz (g s b H _ I h) λv l⟨x,c,e,k,j⟩=>i l b c x v Q e k j)
theorem VJ{f:ak->ak->Sem ak}{C:Int->Int->Prop}{g:Int->Int->Int}
 (rule:∀(i j:Int)(t u:Tok)(s:aq)(Q:ak->aq->Prop)(E:ak->aq->Prop),C i j->Q (.int (g i j) s.toks) {s with toks:=s.toks+1}->wpAny (model X.prog X.w) X.A (f (.int i t) (.int j u)) Q E s):
 pR X f (rI C λi j=> .int (g i j)):=by
 intro f s q H x y v u Q I C E h;obtain⟨i,j,rfl,rfl,f,q⟩:=h;obtain⟨t,rfl⟩:=C;obtain⟨C,rfl⟩:=E;show rule i j t C s _ _ f ⟨.int (g i j),H,I.tok _,⟨_,rfl⟩,q⟩
theorem Rg{f:ak->ak->Sem ak}{g:Int->Int->Int}
 (rule:∀(i j:Int)(t u:Tok)(s:aq)(Q:ak->aq->Prop)(E:ak->aq->Prop),Q (.int (g i j) s.toks) {s with toks:=s.toks+1}->wpAny (model X.prog X.w) X.A (f (.int i t) (.int j u)) Q E s):
 pR X f (M3 λi j=> .int (g i j)):=by
 intro q s a H x y v u Q I f E h;obtain⟨i,j,rfl,rfl,q⟩:=h;obtain⟨t,rfl⟩:=f;obtain⟨f,rfl⟩:=E;show rule i j t f s _ _ ⟨.int (g i j),H,I.tok _,⟨_,rfl⟩,q⟩
theorem M4{f:ak->ak->Sem ak}{g:Int->Int->Bool}
 (rule:∀(i j:Int)(t u:Tok)(s:aq)(Q:ak->aq->Prop)(E:ak->aq->Prop),Q (.bool (g i j)) s->wpAny (model X.prog X.w) X.A (f (.int i t) (.int j u)) Q E s):
 pR X f (M3 λi j=> .bl (g i j)):=by
 intro q s a H x y v u Q I f E h;obtain⟨i,j,rfl,rfl,q⟩:=h;obtain⟨t,rfl⟩:=f;obtain⟨f,rfl⟩:=E;show rule i j t f s _ _ ⟨.bl (g i j),H,I,rfl,q⟩
def Pj(i j:Int):Prop:=(-(2 ^ 64)<i/\i<2 ^ 64)∨(-(2 ^ 64)<j/\j<2 ^ 64)
theorem Pj.ok(h:Pj i j):IntMulOk i j:=by
 rcases h with⟨a,b⟩|⟨a,b⟩
 show .of_left (intBits_le_64 a b);show .of_right (intBits_le_64 a b)
theorem gZ:pR X (binaryOp .Add) (M3 λi j=> .int (i+j)):=Rg λ_ _ _ _ _ _ _ q=>add_int q
theorem Pk:pR X (binaryOp .Sub) (M3 λi j=> .int (i-j)):=Rg λ_ _ _ _ _ _ _ q=>sub_int q
theorem Pn:pR X (binaryOp .Mult) (rI Pj λi j=> .int (i*j)):=VJ λ_ _ _ _ _ _ _ a q=>mul_int q a.ok
theorem VL{f:ak->Sem ak}{g:Int->Int}
 (rule:∀(i:Int)(t:Tok)(s:aq)(Q:ak->aq->Prop)(E:ak->aq->Prop),Q (.int (g i) s.toks) {s with toks:=s.toks+1}->wpAny (model X.prog X.w) X.A (f (.int i t)) Q E s):
 Tn X f (rU λi=> .int (g i)):=by
 intro q s E H x v Q I f h;obtain⟨i,rfl,q⟩:=h;obtain⟨t,rfl⟩:=f;show rule i t s _ _ ⟨.int (g i),H,I.tok _,⟨_,rfl⟩,q⟩
theorem Km:Tn X (unaryOp .USub) (rU λi=> .int (-i)):=VL λ_ _ _ _ _ q=>neg_int q
end
noncomputable def Dl:V->V->Bool
 | .non,.non=>true| .non,.int _=>true| .int _,.non=>true| .non,.bl _=>true| .bl _,.non=>true| .non,.str _=>true| .str _,.non=>true
 | .int _,.int _=>true| .bl _,.bl _=>true| .str _,.str _=>true| .Fq _,.Fq _=>true
 | .int _,.str _=>true| .str _,.int _=>true| .bl _,.str _=>true| .str _,.bl _=>true
 |_,_=>false
def To:R2:=λx y H Q=>Dl x y=true/\Q (.bl (decide (x=y))) H
def UW:R2:=λx y H Q=>Dl x y=true/\Q (.bl (!decide (x=y))) H
theorem Hu:decide (V.int i=V.int j)=(i==j):=by rw[Xg];simp
theorem Kn:decide (V.bl i=V.bl j)=(i==j):=by rw[Xg];simp
theorem Hv:decide (V.str i=V.str j)=(i==j):=by rw[Xg];simp
theorem Hw:decide (V.Fq i=V.Fq j)=(i.toList==j.toList):=by rw[Xg];cases i;cases j;simp
section
variable{X:Cx}{a b c:bx}{e d g:TE}{f:Pos}
theorem cE{k a :Bool}(I:Inv X h i H s)(q:Q (.bl k) H)(e:k=a):EP X h i Q (.bool a) s:=by subst e;show⟨.bl k,H,I,rfl,q⟩
theorem cM:pR X (compareOp .Eq) To:=by
 intro b s c H x y v u Q I d a h;obtain⟨c,q⟩:=h;cases x with
 |non=>
  cases d;cases y with
  |non=>cases a;show EqNone.eq_none_none (cE I q (by simp))
  |bl j=>cases a;show EqNone.eq_none_bool (cE I q (by simp))
  |int j=>obtain⟨b,rfl⟩:=a;show EqNone.eq_none_int (cE I q (by simp))
  |str j=>obtain⟨b,rfl⟩:=a;show EqNone.eq_none_str (cE I q (by simp))
  |_=>show absurd (show false=true from c) W3
 |bl i=>
  cases d;cases y with
  |non=>cases a;show EqNone.eq_bool_none (cE I q (by simp))
  |bl j=>cases a;show eq_bool (cE I q Kn)
  |str j=>obtain⟨b,rfl⟩:=a;show EqMixed.eq_bool_str (cE I q (by simp))
  |_=>show absurd (show false=true from c) W3
 |int i=>
  obtain⟨t,rfl⟩:=d;cases y with
  |non=>cases a;show EqNone.eq_int_none (cE I q (by simp))
  |int j=>obtain⟨b,rfl⟩:=a;show eq_int (cE I q Hu)
  |str j=>obtain⟨b,rfl⟩:=a;show EqMixed.eq_int_str (cE I q (by simp))
  |_=>show absurd (show false=true from c) W3
 |str i=>
  obtain⟨t,rfl⟩:=d;cases y with
  |non=>cases a;show EqNone.eq_str_none (cE I q (by simp))
  |bl j=>cases a;show EqMixed.eq_str_bool (cE I q (by simp))
  |int j=>obtain⟨b,rfl⟩:=a;show EqMixed.eq_str_int (cE I q (by simp))
  |str j=>obtain⟨b,rfl⟩:=a;show eq_str (cE I q Hv)
  |_=>show absurd (show false=true from c) W3
 |Fq i=>
  obtain⟨t,rfl⟩:=d;cases y with
  |Fq j=>obtain⟨b,rfl⟩:=a;show W.eq_bytes (cE I q Hw)
  |_=>show absurd (show false=true from c) W3
 |_=>cases y<;>show absurd (show false=true from c) W3
theorem fK:pR X (compareOp .NotEq) UW:=by
 intro b s c H x y v u Q I d a h;obtain⟨c,q⟩:=h;cases x with
 |non=>
  cases d;cases y with
  |non=>cases a;show EqNone.ne_none_none (cE I q (by simp))
  |bl j=>cases a;show EqNone.ne_none_bool (cE I q (by simp))
  |int j=>obtain⟨b,rfl⟩:=a;show EqNone.ne_none_int (cE I q (by simp))
  |str j=>obtain⟨b,rfl⟩:=a;show EqNone.ne_none_str (cE I q (by simp))
  |_=>show absurd (show false=true from c) W3
 |bl i=>
  cases d;cases y with
  |non=>cases a;show EqNone.ne_bool_none (cE I q (by simp))
  |bl j=>cases a;show ne_bool (cE I q (XE not Kn))
  |str j=>obtain⟨b,rfl⟩:=a;show EqMixed.ne_bool_str (cE I q (by simp))
  |_=>show absurd (show false=true from c) W3
 |int i=>
  obtain⟨t,rfl⟩:=d;cases y with
  |non=>cases a;show EqNone.ne_int_none (cE I q (by simp))
  |int j=>obtain⟨b,rfl⟩:=a;show ne_int (cE I q (XE not Hu))
  |str j=>obtain⟨b,rfl⟩:=a;show EqMixed.ne_int_str (cE I q (by simp))
  |_=>show absurd (show false=true from c) W3
 |str i=>
  obtain⟨t,rfl⟩:=d;cases y with
  |non=>cases a;show EqNone.ne_str_none (cE I q (by simp))
  |bl j=>cases a;show EqMixed.ne_str_bool (cE I q (by simp))
  |int j=>obtain⟨b,rfl⟩:=a;show EqMixed.ne_str_int (cE I q (by simp))
  |str j=>obtain⟨b,rfl⟩:=a;show ne_str (cE I q (XE not Hv))
  |_=>show absurd (show false=true from c) W3
 |Fq i=>
  obtain⟨t,rfl⟩:=d;cases y with
  |Fq j=>obtain⟨b,rfl⟩:=a;show W.ne_bytes (cE I q (XE not Hw))
  |_=>show absurd (show false=true from c) W3
 |_=>cases y<;>show absurd (show false=true from c) W3
theorem rS:pR X (compareOp .Lt) (M3 λi j=> .bl (decide (i<j))):=M4 λ_ _ _ _ _ _ _ q=>lt_int q
theorem mV:pR X (compareOp .LtE) (M3 λi j=> .bl (decide (i<=j))):=M4 λ_ _ _ _ _ _ _ q=>le_int q
theorem p5:pR X (compareOp .Gt) (M3 λi j=> .bl (decide (j<i))):=M4 λ_ _ _ _ _ _ _ q=>gt_int q
theorem Oj:pR X (compareOp .GtE) (M3 λi j=> .bl (decide (j<=i))):=M4 λ_ _ _ _ _ _ _ q=>ge_int q
theorem uB:pR X (compareOp .Is) (λx y H Q=>y= .non/\Q (.bl (decide (x= .non))) H):=by
 intro q s t H x y v u Q I a b h;obtain⟨rfl,q⟩:=h;cases b;show is_none_gen (cE I q ?_)
 cases x<;>first
  |(cases a;rfl)
  |(obtain⟨t,rfl⟩:=a;rfl)
theorem Hx:pR X (compareOp .IsNot) (λx y H Q=>y= .non/\Q (.bl (!decide (x= .non))) H):=by
 intro q s t H x y v u Q I a b h;obtain⟨rfl,q⟩:=h;cases b;show isnot_none_gen (cE I q ?_)
 cases x<;>first
  |(cases a;rfl)
  |(obtain⟨t,rfl⟩:=a;rfl)
theorem a_ b(c:autoParam (h≠.In) cL._auto_3)(d:autoParam (h≠.NotIn) cL._auto_3):behindInMarks h b=false:=by
 have a:(h==CmpOp.In)=false:=by cases h<;>first|rfl|show absurd rfl c
 have c:(h==CmpOp.NotIn)=false:=by cases h<;>first|rfl|show absurd rfl d
 cases b<;>first|rfl|(change((_:Bool)&&(h==CmpOp.In||h==CmpOp.NotIn)&&_)=false;simp[a,c])
theorem jx{c:CmpOp}{r:R2}(k:pR X (compareOp c) r)(g:PE X a e)(i:PE X b d)(j:behindInMarks c b=false):PE X (.Compare a [c] [b] f) (Pg r e d):=by intro c s o H Q I h;show wpAny_Compare1 (Ph g i I h λv u n x y c r l m q=>k n o c x y v u Q r l m q) j
def Hy(t:TE):TT:=λb H Q=>t b H λx a =>∃k,x= .bl k/\Q k a
theorem aQ(q:pR X (compareOp h) r)(n:PE X a e)(o:PE X b d)(p:behindInMarks h b=false):PT X (.Compare a [h] [b] f) (Hy (Pg r e d)):=by intro h s g H Q I m;show wpAny_isTrue_Compare1 (dz (n s g H _ I m) λv y⟨B,h,j,w,t⟩=>dz (o y g h _ j t) λA z⟨C,i,l,x,u⟩=>dz (q z g i B C v A _ l w x u) λc o⟨t,h,j,n,k,H,m⟩=> ?_) p;subst H;cases n;show Yk ⟨h,j,m⟩
def FZ(r h :R2)(e d g:TE):TE:=λa H Q=>e a H λx c=>d a c λy f=>r x y f λz b=>∃k,z= .bl k/\
 (if k=true then g a b λf c=>h y f c Q else Q (.bl false) b)
theorem Dm(s:pR X (compareOp h) j)(t :pR X (compareOp i) n)(o:PE X a e)(p:PE X b d)(q:PE X c g)
 (r:autoParam (lastMarks [h,i] [b,c]=false) cL._auto_8):PE X (.Compare a [h,i] [b,c] f) (FZ j n e d g):=by
 intro i z h H Q I k;show Compare_chain (dz (o z h H _ I k) λC A⟨D,i,j,x,v⟩=>chain_link (dz (p A h i _ j v) λu B⟨y,m,n,l,w⟩=>dz (s B h m D y C u _ n x l w) λz v⟨A,i,j,p,o,H,k⟩=> ?_)) r;subst H;cases p;show Yk ?_;cases o with
 |false=>show ite_ff ⟨.bl false,i,j,rfl,k⟩
 |true=>show ite_tt (chain_last (dz (q v h i _ j k) λr H⟨s,m,n,p,o⟩=>t H h m y s u r Q n l p o))
theorem mW(t:pR X (compareOp h) H)(v :pR X (compareOp i) n)(p:PE X a e)(q:PE X b d)(r:PE X c g)
 (s:autoParam (lastMarks [h,i] [b,c]=false) cL._auto_8):PT X (.Compare a [h,i] [b,c] f) (Hy (FZ H n e d g)):=by
 intro n A h H Q I l;show isTrue_chain (dz (p A h H _ I l) λD B⟨E,i,j,z,w⟩=>test_link (dz (q B h i _ j w) λu C⟨y,n,o,m,x⟩=>dz (t C h n E y D u _ o z m x) λq A⟨w,i,j,p,k,H,l⟩=> ?_)) s;subst H;cases p;show Yk ?_;cases k with
 |false=>obtain⟨p,H,n⟩:=l;cases H;show ite_ff ⟨i,j,n⟩
 |true=>show ite_tt (test_last (dz (r A h i _ j l) λz x⟨B,n,o,t,q⟩=>dz (v x h n y B u z _ o m t q) λC E⟨Q,H,I,w,D,p,s⟩=> ?_));subst p;cases w;show Yk ⟨H,I,s⟩
theorem uC:(sizeLine:Nat)<2 ^ 63:=by rw[Wx];decide
theorem pC:pR X (binaryOp .Add) (λx y H Q=>∃i j,x= .str i/\y= .str j/\i.length+j.length<=sizeLine/\Q (.str (i++j)) H):=by intro q s t H x y v u Q I a b h;obtain⟨i,j,rfl,rfl,x,q⟩:=h;obtain⟨t,rfl⟩:=a;obtain⟨a,rfl⟩:=b;show add_str (λa tk=>⟨.str (i++j),H,I.tok _,⟨_,rfl⟩,q⟩) x
theorem vals1(r:bW [x] h):∃u,h=[u]/\RelV x u:=by
 cases r with
 |cons r u=>cases u;show⟨_,rfl,r⟩
theorem vals2(r:bW [x,y] h):∃u a,h=[u,a]/\RelV x u/\RelV y a :=by
 cases r with
 |cons a r=>
  cases r with
  |cons r u=>cases u;show⟨_,_,rfl,a,r⟩
theorem Ko:fz X (.builtin "ord") (λxs H Q=>∃x,xs=[.str x]/\x.length=1/\Q (.int (x.cps.getD 0 0:Nat)) H):=by intro q s u H xs t Q I r h;obtain⟨x,rfl,Q,q⟩:=h;obtain⟨u,rfl,t,rfl⟩:=vals1 r;show ord_of_one Q ⟨.int _,H,I.tok _,⟨_,rfl⟩,q⟩
end
end L2
namespace L2
open PySem PySem.Spec PyProof.Rows
structure F0(h:aX)(x dx C:ai)(mA:Str->az ak):Prop where
 obj:h.get? x=some (W.instObj C dx)
 ns:h.Ns1 dx mA
 ne:dx≠x
theorem I5{h:aX}{b:ai}{d:Str->az ak}(p:h.Ns1 b d):∃f,h.get? b=some f/\∀a,W.lookIn a f=some (d a):=by
 obtain⟨r,c,s,n,j,k,_,m⟩:=p;show⟨r,n,λa=> ?_⟩;have e:=m a;unfold nsFind findBy at e;rw[<- abK]at e;unfold W.lookIn;rw[j];dsimp only;split
 . rename_i y q;rw[q]at e;show XE some e
 . rename_i q;rw[q]at e;have g:c.toList.any (·.refKey)=false:=(by rw[List.any_eq_false];intro y o;obtain⟨z,t,l⟩:=k y (Array.mem_toList_iff.mp o);simp[DictEntry.refKey,l]);have i :¬c.toList.any (·.refKey)=true:=(by rw[g];show W3);rw[Wn i];show XE some e
theorem F0.look(I:F0 h x c C d):∃a,W.InstAt h x (W.instObj C c) C (some a)/\∀b,W.lookIn b a=some (d b):=
 let⟨a,c,b⟩:=I5 I.ns
 ⟨a,⟨I.obj,rfl,rfl,c⟩,b⟩
section
variable{b:aS}{w:aU}{A:bC}{E:ak->aq->Prop}{s:aq}{K:ay}{x d C f:ai}{c:Str->az ak}{a:Str}{v:ak}
theorem M5(X:K.In s.heap)(I:F0 s.heap x d C c)(f:W.plainGet K C a=true)(g:W.hasDictIn K C=true)
 (e:W.findIn K (.ref C) a=some none) (i:c a=some v) (j :W.handedIn v=true) (h:Q v {s with toks:=s.toks+1}):
 wpAny (model b w) A (getAttr (.ref x) a J) Q E s:=by
 obtain⟨k,J,Q⟩:=I.look;show W.get_value X J (abG f).1 (W.findObj_own g e rfl (by rw[Q,i])) j h
theorem Kp(X:K.In s.heap)(I:F0 s.heap x d C c)(e:W.plainGet K C a=true)
 (g:W.findIn K (.ref C) a=some (some (.ref f))) (i:W.isFn K (.ref f)=true) (j:c a=none) (h:Q (.ref f,[.ref x]) s):
 wpAny (model b w) A (getMethod (.ref x) a J) Q E s:=by
 obtain⟨k,J,Q⟩:=I.look;show W.method_fn X J (abG e).1 (abG e).2 g (XD.mp i) (by change(W.lookIn a k).map (·.isSome)=some false;rw[Q,j];rfl) h
theorem M6(X:K.In s.heap)(I:F0 s.heap x d C c)
 (i:W.findIn K (.ref C) "__setattr__" =some (some (.builtin "object.__setattr__"))) (g:W.plainOver K C=true) (j:W.takerIn K C a=some none) (f:W.hasDictIn K C=true)
 (hw:PySem.Within c y) (J:y.length<=sizeLine)
 (h:∀e,F0 e x d C (λy=>if y=a then some v else c y)->Heap.SameBut d s.heap e->Q () {s with heap:=e,toks:=s.toks+2}):
 wpAny (model b w) A (setAttr (.ref x) a v) Q E s:=by
 obtain⟨Q,J,y⟩:=I.look;show W.set_plain X J i (W.osa_open (s:={s with toks:=s.toks+1}) (r:=none) X J g j λy=> ?_);obtain⟨g,J,y⟩:=W.any_some f;have f:=I.obj;show Wm (Ww (Wm (Wm (wpAny_loadPart f (Wm (W.Looks.here (s:={s with toks:=s.toks+1}) (W.looks_clsIn X J) ?_))))));rw[y];show Ww (a:=some d) (Wm (Ww (Wm ?_)));show wpAny_nsSet1 (s:={s with toks:=s.toks+1}) I.ns λe J X=> ?_;obtain⟨j,i,g,f,y,e⟩:=J.count (PySem.Within.cons a v hw);show Wm (wpAny_lookBehind f (by rw[y];show pastItsLine_dict (Xi e (by rw[WG];lia))) ?_);show Ww (h _ ⟨(X.2 _ (Yt I.ne)).trans I.obj,J,I.ne⟩ X)
theorem Kq(X:K.In s.heap)(d:W.makesIn K C=true)
 (c:W.findIn K (.ref C) "__init__" =some (some (.ref f))) (a:W.typeIn K (.ref f)=some (.type "function"))
 (h:codeAny (model b w) (A.under (.builtin "type.__call__" ⟨.ref C::g,e⟩)) (.call (.ref f) ⟨.ref (s.heap.objs.size+1)::g,e⟩) (W.InitBack (s.heap.objs.size+1) R)
   {s with heap:=(s.heap.push W.emptyDict).push (W.instObj C s.heap.objs.size)}):
 codeAny (model b w) A (.call (.ref C) ⟨g,e⟩) R s:=by
 obtain⟨R,g,e,t,os⟩:=s;show W.make_core (W.makes_of X d) (W.looks_findIn X c) (λe=>W.bind_fn X e a) (.inl rfl) h
end
noncomputable def cA (f:Str) (v:V):ah (Str×V)->ah (Str×V)
 |[]=>[(f,v)]
 |(g,x)::r=>if g=f then(g,v)::r else(g,x)::cA f v r
theorem rT f g v:∀fs,(cA f v fs).lookup g=if g=f then some v else fs.lookup g
 |[]=>by change List.lookup g [(f,v)]=_;by_cases h:g=f;have a:(g==f)=true:=XD.mpr h;simp only[List.lookup,a,Wt h];have a:(g==f)=false:=Xs.mpr h;simp only[List.lookup,a,Wn h]
 |(k,x)::r=>by have b:=rT f g v r;rw[show cA f v ((k,x)::r)=(if k=f then(k,v)::r else(k,x)::cA f v r)from rfl];by_cases v:k=f;rw[Wt v];by_cases h:g=k;have a:(g==k)=true:=XD.mpr h;simp only[List.lookup,a,Wt (h.trans v)];have a:(g==k)=false:=Xs.mpr h;simp only[List.lookup,a,Wn (λe:g=f=>h (e.trans v.symm))];rw[Wn v];by_cases h:g=k;have a:(g==k)=true:=XD.mpr h;simp only[List.lookup,a,Wn (λe:g=f=>v (h.symm.trans e))];have a:(g==k)=false:=Xs.mpr h;simp only[List.lookup,a];show b
theorem qX f v:∀fs,f∈(cA f v fs).map (·.1)/\∀g,g∈fs.map (·.1)->g∈(cA f v fs).map (·.1)
 |[]=>⟨by simp[cA],λg h=>by simp at h⟩
 |(k,x)::r=>by
  obtain⟨a,b⟩:=qX f v r;rw[show cA f v ((k,x)::r)=(if k=f then(k,v)::r else(k,x)::cA f v r)from rfl];by_cases r:k=f;rw[Wt r];subst r;show⟨by simp,λg h=>by simpa using h⟩;rw[Wn r];show⟨?_,λg h=> ?_⟩;rw[WM];show Wz _ a;rw[WM]at h|-;rcases WB.mp h with e|e
  show WB.mpr (.inl e);show Wz _ (b g e)
theorem rV f v:∀fs,(cA f v fs).length<=fs.length+1
 |[]=>by simp[cA]
 |(k,x)::r=>by have a:=rV f v r;rw[show cA f v ((k,x)::r)=(if k=f then(k,v)::r else(k,x)::cA f v r)from rfl];by_cases r:k=f;rw[Wt r,WG,WG];lia;rw[Wn r,WG,WG];lia
theorem mJ.some_of(r:mJ (some v) o):∃u,o=some u/\RelV v u:=by
 cases o with
 |none=>show(show False from r).elim
 |some u=>show⟨u,rfl,r⟩
theorem mJ.none_of(r:mJ none o):o=none:=by
 cases o with
 |none=>rfl
 |some u=>show(show False from r).elim
theorem I6(r:RelV v u):W.handedIn u=true:=by
 cases v with
 |non=>cases(show u=Value.none from r);rfl
 |bl b=>cases(show u=Value.bool b from r);rfl
 |int i=>obtain⟨t,e⟩:=(show∃t,u=Value.int i t from r);cases e;rfl
 |str x=>obtain⟨t,e⟩:=(show∃t,u=Value.str x t from r);cases e;rfl
 |Fq b=>obtain⟨t,e⟩:=(show∃t,u=Value.bytes b t from r);cases e;rfl
 |Sw b=>obtain⟨t,e⟩:=(show∃t,u=Value.float b t from r);cases e;rfl
 |ref a=>cases(show u=Value.ref a from r);rfl
 |ty n=>cases(show u=Value.type n from r);rfl
section
variable{P:aS}{w:aU}{H d :Hp}{h f :aX}{a C b:ai}{fs c :ah (Str×V)}
theorem BF(g:lG P w H h)(e:H a=some (.ins C b fs)):∃c,F0 h a b C c/\(∀f,mJ (fs.lookup f) (c f))/\PySem.Within c (fs.map (·.1))/\fs.length<=1000/\H b=some (.own a):=by obtain⟨d,z,f,ob,c,n,r,q⟩:=(show dw P w H h a (.ins C b fs)from g a _ e);show⟨c,⟨ob,n,f⟩,r,q,z,d⟩
end
structure BG(K:ay)(C:ai):Prop where
 pg:W.plainGet K C Str.empty=true
 hd:W.hasDictIn K C=true
 po:W.plainOver K C=true
 sa:W.findIn K (.ref C) "__setattr__" =some (some (.builtin "object.__setattr__"))
theorem BG.get{K:ay}(c:BG K C) f:W.plainGet K C f=true:=c.pg
theorem bO.Rh{K:ay}(n:bO K C f):W.takerIn K C f=some none:=by unfold W.takerIn;rw[show W.findIn K (.ref C) f=some none from n];rfl
structure M7(K:ay)(C:ai)(m:Str)(f:ai):Prop where
 at_:W.findIn K (.ref C) m=some (some (.ref f))
 fn:W.isFn K (.ref f)=true
 kp:W.keepIn K (.ref f)=true
section
variable{X:Cx}{b:ah (ai×aV)}{c:St}{H:Hp}{s:aq}{a C d:ai}{fs:ah (Str×V)}{f:Str}{v:V}{A:bC}{E:ak->aq->Prop}
theorem uD(I:Inv X b c H s)(h:H a=some (.ins C d fs))(e:BG X.K C)(n:bO X.K C f)(l:fs.lookup f=some v)
 (i:∀u g,Inv X b c H g->RelV v u->Q u g):wpAny (model X.prog X.w) A (getAttr (.ref a) f r) Q E s:=by
 obtain⟨Q,O,r,_,_,_⟩:=BF I.dD h;obtain⟨u,h,g⟩:=mJ.some_of (v:=v) (o:=Q f) (by rw[<- l];show r f);show M5 I.ur O (e.get f) e.hd n h (I6 g) (i u _ (I.tok _) g)
theorem uE{m:Str}(I:Inv X b c H s)(f:H a=some (.ins C d fs))(e:BG X.K C)(k:M7 X.K C m g)(l:fs.lookup m=none)
 (h:Q (.ref g,[.ref a]) s):wpAny (model X.prog X.w) A (getMethod (.ref a) m pl) Q E s:=by
 obtain⟨g,O,r,_,_,_⟩:=BF I.dD f;have f:=mJ.none_of (by rw[<- l];show r m);show Kp I.ur O (e.get m) k.at_ k.fn f h
theorem uF(I:Inv X b c H s)(e:H a=some (.ins C d fs))(g:BG X.K C)(n:bO X.K C f)(o:fs.length<1000)(l:RelV y u)
 (o:∀h,Inv X b c (upd H a (.ins C d (cA f y fs))) h->Q () h):wpAny (model X.prog X.w) A (setAttr (.ref a) f u) Q E s:=by
 obtain⟨j,O,r,k,_,i⟩:=BF I.dD e;have Q:(fs.map (·.1)).length<=sizeLine:=by rw[Wl,Wx];lia
 show M6 I.ur O g.sa g.po n.Rh g.hd k Q λq h m=>o _ ?_;have Q:∃o,q.get? d=some o:=let⟨o,_,_,g,_⟩:=h.ns;⟨o,g⟩
 show I.write (x:=a) (e:=d) (by rw[e];show True.intro) (.inr i) (λg q o z=>(m.2 g o).trans z) Q ?_;show⟨by rw[aF O.ne];show i,?_,O.ne,h.obj,_,h.ns,λg=> ?_,λg o=> ?_⟩;have:=rV f y fs;lia;change mJ ((cA f y fs).lookup g) (if g=f then some u else j g);rw[rT];by_cases q:g=f;rw[Wt q,Wt q];show l;rw[Wn q,Wn q];show r g;by_cases q:g=f;rw[q];show(qX f y fs).1;show(qX f y fs).2 g (k g λz=>o ?_);change(if g=f then some u else j g)=none;rw[Wn q];show z
theorem Inv.made(I:Inv X b c H s):Inv X b c (upd (upd H s.heap.objs.size (.own (s.heap.objs.size+1))) (s.heap.objs.size+1) (.ins C s.heap.objs.size []))
 {s with heap:=(s.heap.push W.emptyDict).push (W.instObj C s.heap.objs.size)}:=by
 have a:(s.heap.push W.emptyDict).get? s.heap.objs.size=some W.emptyDict:=WH s.heap rfl
 have f:((s.heap.push W.emptyDict).push (W.instObj C s.heap.objs.size)).get? (s.heap.objs.size+1)=some (W.instObj C s.heap.objs.size):=by
  have:=WH (s.heap.push W.emptyDict) (o:=W.instObj C s.heap.objs.size) rfl
  rwa [XR]at this
 have g:(s.heap.push W.emptyDict).Ns s.heap.objs.size (λ_=>none):=⟨W.emptyDict,#[],_,a,rfl,(λe d=>absurd d (by simp)),λ_=>rfl⟩;have d:=I.laid (a:=s.heap.objs.size) (o:= .own (s.heap.objs.size+1)) (h' :=s.heap.push W.emptyDict) (t' :=s.toks) (λe u q=>Wv _ q) (Wu _) ⟨_,a⟩;show d.laid (a:=s.heap.objs.size+1) (o:= .ins C s.heap.objs.size []) (t' :=s.toks) (λe u q=>Wv _ q) (Z7 (XR _ _)) ?_;have a:s.heap.objs.size≠s.heap.objs.size+1:=W6 (aao _);show⟨by rw[aF a,av],Xb _,a,f,λ_=>none,(Heap.Ns1.of_empty g).at λo q=>Wv _ q,λ_=>True.intro,λy d=>absurd rfl d⟩
theorem BH(b:attributeBase e f g (eval e g)=eval e g)
 (a:wpAny (model h w) A (eval e g) (λo c=>wpAny (model h w) A (getAttr o f true) Q E c) E s):wpAny (model h w) A (eval (.Attribute e f i) g) Q E s:=
 Attribute_any_ a (by rw[arm_eval_Attribute,b])
end
def Ri(X:Cx)(c:Operator)(d:V->V->Hp->VK->Prop):Prop:=
 ∀⦃a:ah (ai×aV)⦄(s:aq) (b:St) (H:Hp) (x y:V) (u v:ak) (Q:VK),Inv X a b H s->RelV x u->RelV y v->d x y H Q->wpAny (model X.prog X.w) X.A (inplaceOp c u v) (EP X a b Q) X.xe s
section
variable{X:Cx}{o e a:bx}{f:Str}{d c b:Pos}{h g:TE}
def Rj:V->V->Hp->VK->Prop:=λx y H Q=>∃i j,x= .int i/\y= .int j/\Q (.int (i+j)) H
theorem Pp:Ri X .Add Rj:=by rintro c s d H x y u v Q I a b ⟨i,j,rfl,rfl,q⟩;obtain⟨t,rfl⟩:=(show∃t,u=Value.int i t from a);obtain⟨a,rfl⟩:=(show∃a,v=Value.int j a from b);show PyProof.Rows.iadd_int ⟨.int (i+j),H,I.tok _,⟨_,rfl⟩,q⟩
end
section
variable{X:Cx}{a:ah (ai×aV)}{d:St}{H:Hp}{s:aq}{A:bC}{E:ak->aq->Prop}{Q:ak->aq->Prop}{c:ak}{b:Bool}
end
end L2
namespace L2
open PySem PySem.Spec PyProof.Rows
structure fq(k:Nat)(A:bC):Prop where
 hd:A.handled=none
 dp:A.depth+3*k+5<recursionLimit
 un:A.units+16*k+200<cLine
theorem fq.mono{j k:Nat}(r:fq k A)(h:j<=k):fq j A:=⟨r.hd,by have:=r.dp;lia,by have:=r.un;lia⟩
theorem fq.deeper{k:Nat}(r:fq (k+1) A) env:fq k (A.deeper env):=
 ⟨r.hd,by have:=r.dp;change A.depth+1+3*k+5<_;lia,by have:=r.un;change A.units+3+16*k+200<_;lia⟩
theorem uG{A:bC}{C:ai}{b:ah ak}{a:ah (Str×ak)}:(A.under (.builtin "type.__call__" ⟨.ref C::b,a⟩)).depth=A.depth+1:=by
 first|rfl|simp[Around.under,Code.weight,Code.isCreation,Code.isGuard,Code.isCaller,Code.frames,Code.isFrame,guardIds]
theorem F1{A:bC}{C:ai}{b:ah ak}{a:ah (Str×ak)}:(A.under (.builtin "type.__call__" ⟨.ref C::b,a⟩)).units=A.units+1:=by
 first|rfl|simp[Around.under,Code.cUnits,Code.frames,Code.isFrame]
theorem fq.make{k:Nat}(r:fq (k+1) A) C b a:fq k (A.under (.builtin "type.__call__" ⟨.ref C::b,a⟩)):=
 ⟨r.hd,by have:=r.dp;rw[uG];lia,by have:=r.un;rw[F1];lia⟩
theorem fq.depth{k:Nat}(r:fq k A):A.depth<recursionLimit:=by have:=r.dp;lia
theorem fq.units{k:Nat}(r:fq k A):A.units+64<cLine:=by have:=r.un;lia
def F2:TA:=λ_ H Q=>Q [] H
def Ab(d:TE)(e:TA):TA:=λa H Q=>d a H λx b=>e a b λf c=>Q (x::f) c
section
variable{X:Cx}{e:bx}{a:ah bx}{d:TE}{t:TA}{c:Pos}
theorem ao:PA X [] F2:=λ_ _ _ _ H Q I h=>aaW ⟨[],H,I,.nil,h⟩
theorem aj(i:PE X e d)(j:PA X a t)(f:autoParam (starEach (e::a) X.env=(false,eval e X.env)::starEach a X.env) cL._auto_6):PA X (e::a) (Ab d t):=by intro c k s b H Q I h;rw[f];show ZY (dz (i s b H _ I h) λu n⟨x,f,g,m,l⟩=> ?_);show dz (j k n b f _ g l) λu o⟨xs,H,I,i,h⟩=>⟨x::xs,H,I,.cons m i,h⟩
def Rk(t:TA):TE:=λc H Q=>t c H λb a=>b.length<=sizeLine/\∀p,a p=none->Q (.ref p) (upd a p (.tup b))
def Rl(t:TA):TE:=λc H Q=>t c H λb a=>b.length<=sizeLine/\∀p,a p=none->Q (.ref p) (upd a p (.lst b))
theorem iN{x1}(h:PA X a t):PE X (.Tuple a x1 c) (Rk t):=by intro j s l H Q I i;show wpAny_Tuple_spliced (dz (h j s l H _ I i) λk d⟨xs,g,f,r,z,q⟩=>⟨by rw[<- r.length];show z,?_⟩);have h:=f.dD.fresh (Wu _);show⟨.ref d.heap.objs.size,upd g d.heap.objs.size (.tup xs),f.laid (t' :=d.toks) (λb u e=>Wv _ e) (Wu _) ?_,rfl,q _ h⟩;show⟨z,k,r,⟨_,WH _ rfl,rfl,_,rfl⟩⟩
theorem bI(h:PA X a t):PE X (.List a c) (Rl t):=by intro j s l H Q I i;show wpAny_List_spliced (dz (h j s l H _ I i) λk d⟨xs,g,f,r,z,q⟩=>⟨by rw[<- r.length];show z,?_⟩);have h:=f.dD.fresh (Wu _);show⟨.ref d.heap.objs.size,upd g d.heap.objs.size (.lst xs),f.laid (t' :=d.toks) (λb u e=>Wv _ e) (Wu _) ?_,rfl,q _ h⟩;show⟨z,k,0,r,WH _ rfl⟩
end
abbrev Sp:=ah V->Hp->VK->XK->Prop
abbrev Kr:=ah Env->Hp->aq->XK->ak->aq->Prop
structure F3(P:aS)(w:aU)(K:ay)(mg:Str->az ak)(base:aX)(A:bC)(outer:ah Env)(s:aq)(H:Hp):Prop where
 frames:A.frames=some outer
 mod:Mod K mg base
 bs:∀b o,base.get? b=some o->s.heap.get? b=some o/\H b=none
 MY:base.objs.size<=s.heap.objs.size
 sS:s.heap.FunFrames base outer
 QG:∀b∈qT outer,H b=none
 dD:lG P w H s.heap
 bare:AllBare s.gens
def CE(c:ah Env)(P:aS)(w:aU)(H:Hp)(s:aq)(Q:VK)(u:ak)(a :aq):Prop:=
 ∃v b,a.os=s.os/\AllBare a.gens/\Un (qT c) [] H b s.heap a.heap/\lG P w b a.heap/\RelV v u/\Q v b
def CR(c:Kr)(a:ah Env)(P:aS)(w:aU)(H:Hp)(s:aq)(Q:VK)(E:XK)(r:Result)(b :aq):Prop:=
 match r with
 | .ok (.ret u)=>CE a P w H s Q u b
 | .ok _=>False
 | .error e=>c a H s E e b
structure j7(P:aS)(w:aU)(K:ay)(mg:Str->az ak)(base:aX)(CX:Kr)(k:Nat)(f:ai)(fd:FuncData)(ps:ah Str)(sp:Sp):Prop where
 len:∀vs H Q E,sp vs H Q E->vs.length=ps.length
 run:∀(A:bC)(outer:ah Env)(s:aq)(H:Hp)(args:Args)(us:ah ak)(vs:ah V)(Q:VK)(E:XK),fq k A->F3 P w K mg base A outer s H->BindsTo s fd args (ps.zip us)->bW vs us->sp vs H Q E->
  codeAny (model P w) A (.call (.ref f) args) (CR CX outer P w H s Q E) s
theorem F3.make{K:ay}(e:F3 P w K c a A d s H) C f b:
 F3 P w K c a (A.under (.builtin "type.__call__" ⟨.ref C::f,b⟩)) d s H:=⟨by first|show e.frames|(simpa[Around.under,Code.envs,Code.isFrame,pushEnvs]using e.frames),e.mod,e.bs,e.MY,e.sS,e.QG,e.dD,e.bare⟩
section
variable{X:Cx}{a:ah (ai×aV)}{b:St}{H:Hp}{s c :aq}
theorem Inv.Rm(I:Inv X a b H s):F3 X.prog X.w X.K X.mg X.base X.A X.stack s H:=
 ⟨I.ok.frames,I.ok.mod,I.bs,Xi I.ok.MY I.sz,I.stack,I.s9,I.dD,I.bare⟩
theorem Inv.after(I:Inv X a b H s)(h:CE X.stack X.prog X.w H s Q u c):EP X a b Q u c :=by obtain⟨v,d,os,Q,un,f,r,q⟩:=h;obtain⟨h,g,e,t,i⟩:=c;obtain rfl:i =s.os:=os;show⟨v,d,I.call (h' :=h) (g' :=g) (d' :=e) (t' :=t) (ch:=[]) un f Q (λi z=>absurd z (by simp)),r,q⟩
end
def Hz(c:Sp)(b:ah V)(E:XK)(t:TA):TE:=λe H Q=>t e H λd a=>c (d++b) a Q E
def Dn(C:ai)(m:Str)(f:Sp)(d:ah V)(E:XK)(g:TE)(t:TA):TE:=λc H Q=>g c H λx a=>∃b e fs,x= .ref b/\a b=some (.ins C e fs)/\fs.lookup m=none/\
 t c a λvs b=>f (x::(vs++d)) b Q E
def Dq(C:ai)(d:Sp)(c:ah V)(E:XK)(t:TA):TE:=λv H Q=>t v H λe b=>∀x a,b x=none->b a=none->a≠x->
 d (.ref x::(e++c)) (upd (upd b a (.own x)) x (.ins C a [])) (λv H=>v= .non/\Q (.ref x) H) E
def Binds(K:ay)(c:FuncData)(b:ah Str)(a:ah ak):Prop:=
 ∀(s:aq)(us:ah ak),K.In s.heap->(us++a).length=b.length->BindsTo s c ⟨us,[]⟩ (b.zip (us++a))
theorem Binds.all{K:ay}(h:∀a:ah ak,a.length=c.length->bindArgs d ⟨a,[]⟩=pure (c.zip a)):Binds K d c []:=λs a _ b=>by rw[XJ]at b|-;show .of_eq (h a b)
def gg(a:Kr)(X:Cx)(E:XK):Prop:=∀(pins:ah (ai×aV))(b:St)(H:Hp)(s:aq)(e:ak)(s' :aq),Inv X pins b H s->a X.stack H s E e s'->X.xe e s'
section
variable{X:Cx}{i:Kr}{k:Nat}{f C:ai}{j:FuncData}{g:ah Str}{h:Sp}{b:ah V}{c:ah ak}{E:XK}{x m:Str}{p a l:Pos}{e o:bx}{d:ah bx}{n:TE}{t:TA}
theorem F4(F:j7 X.prog X.w X.K X.mg X.base i k f j g h)(t:fq k X.A)(n:Binds X.K j g c)(o:bW b c)(v:gg i X E)
 (I:Inv X q u H s) (r:bW vs us) (d:h (vs++b) H Q E):wpAny (model X.prog X.w) X.A (call (.ref f) us) (EP X q u Q) X.xe s:=by
 have l:=r.append o;have p:(us++c).length=g.length:=by rw[<- l.length];show F.len _ _ _ _ d
 show wpAny_call (aaF (F.run X.A X.stack s H ⟨us,[]⟩ (us++c) (vs++b) Q E t I.Rm (n s us I.ur p) l d) λr w a=> ?_);cases r with
 |error e=>show v q u H s e w I a
 |ok m=>
  cases m with
  |ret x=>show I.after a
  |next=>show False.elim a
  |brk=>show False.elim a
  |cont=>show False.elim a
theorem M8(F:j7 X.prog X.w X.K X.mg X.base i k f j g h)(y:fq k X.A)(s:Gl X x)(v:X.mg x=some (.ref f))(u:W.keepIn X.K (.ref f)=true)(o:Binds X.K j g c)(q:bW b c)(z:gg i X E)
 (n:PA X (e::d) t) (l:autoParam ((x==("__debug__" :Str))=false) cL._auto_3) (r:autoParam (starEach (e::d) X.env=(false,eval e X.env)::starEach d X.env) cL._auto_6) (w:autoParam ((backTo a (starEach d X.env)).any (·.1)=false) cL._auto_6):
 PE X (.Call (.Name x p) (e::d) [] a) (Hz h b E t):=by
 intro A B C H Q I m;show Y3 (nT I s v ?_ l);show abg (h₀:=X.base) I.ok.mod.QD u (dz (n A B C H _ I m) λG Q⟨J,D,l,v,s⟩=>⟨l.ur,?_⟩) r w;show F4 F y o q z l v s
theorem M9(G:PE X o n)(r:BG X.K C)(s:M7 X.K C m f)(F:j7 X.prog X.w X.K X.mg X.base i k f j g h)(K:fq k X.A)(B:Binds X.K j g c)(D:bW b c)(N:gg i X E)(A:PA X (e::d) t)
 (L:autoParam (starEach (e::d) X.env=(false,eval e X.env)::starEach d X.env) cL._auto_6) (J:autoParam ((backTo a (starEach d X.env)).any (·.1)=false) cL._auto_6)
 (M:autoParam (eval (.Call (.Attribute o m l) (e::d) [] a) X.env=(do
   let p <- eval o X.env
   standAt l.atName
   let(f,first) <- holding [p] (getMethod p m pl)
   callWith a f first (backTo a (starEach (e::d) X.env)) (backToKw a (keywordEach [] X.env)))) cL._auto_6):
 PE X (.Call (.Attribute o m l) (e::d) [] a) (Dn C m h b E n t):=by
 intro P S u H Q I z;show W.methodCall_KW (pl:=pl) (dz (G S u H _ I z) λU T⟨x,v,q,R,p,V,fs,y,w,O,Q⟩=> ?_) M;subst y;obtain rfl:U=Value.ref p:=R;show uE q w r s O ?_;show abg (first:=[.ref p]) (h₀:=X.base) I.ok.mod.QD s.kp (dz (A P T u v _ q Q) λus G⟨vs,z,r,y,w⟩=>⟨r.ur,?_⟩) L J;show F4 (us:= .ref p::us) (vs:= .ref p::vs) F K B D N r (.cons rfl y) w
theorem Ks(w:PE X o n)(q:BG X.K C)(p:M7 X.K C m f)(F:j7 X.prog X.w X.K X.mg X.base i k f j g h)(y:fq k X.A)(u:Binds X.K j g c)(v:bW b c)(A:gg i X E)
 (z:autoParam (eval (.Call (.Attribute o m l) [] [] a) X.env=(do
   let d <- eval o X.env
   standAt l.atName
   let(f,first) <- holding [d] (getMethod d m pl)
   callWith a f first (backTo a (starEach [] X.env)) (backToKw a (keywordEach [] X.env)))) cL._auto_6):
 PE X (.Call (.Attribute o m l) [] [] a) (Dn C m h b E n F2):=by
 intro d J L H Q I t;show W.methodCall_KW (pl:=pl) (dz (w J L H _ I t) λK N⟨x,M,e,G,d,Q,fs,s,r,B,D⟩=> ?_) z;subst s;obtain rfl:K=Value.ref d:=G;show uE e r q p B ?_;show W.callWith_K0 (first:=[.ref d]) e.ur p.kp (F4 (us:=[.ref d]) (vs:=[.ref d]) F y u v A e (.cons rfl .nil) D)
structure Mk(K:ay)(C f:ai):Prop where
 makes:W.makesIn K C=true
 init:W.findIn K (.ref C) "__init__" =some (some (.ref f))
 fn:W.isFn K (.ref f)=true
 kp:W.keepIn K (.ref C)=true
theorem Dr(M:Mk X.K C f)(F:j7 X.prog X.w X.K X.mg X.base i k f j g h)(J:fq (k+1) X.A)(B:Binds X.K j g c)(D:bW b c)
 (K:gg i X E) (I:Inv X q w H s) (r:bW u us)
 (A:∀x l,H x=none->H l=none->l≠x->h (.ref x::(u++b)) (upd (upd H l (.own x)) x (.ins C l [])) (λv p=>v= .non/\Q (.ref x) p) E):
 wpAny (model X.prog X.w) X.A (call (.ref C) us) (EP X q w Q) X.xe s:=by
 have m:=A (s.heap.objs.size+1) s.heap.objs.size (I.dD.fresh (aaX _)) (I.dD.fresh (Wu _)) (W6 (aao _));have d:=Inv.made (C:=C) I;have n:bW (V.ref (s.heap.objs.size+1)::(u++b)) (Value.ref (s.heap.objs.size+1)::(us++c)):= .cons rfl (r.append D);have G:(Value.ref (s.heap.objs.size+1)::us++c).length=g.length:=by have e:=n.length;rw[F.len _ _ _ _ m]at e;show e.symm
 show wpAny_call (Kq (f:=f) I.ur M.makes M.init (XD.mp M.fn) (aaF (F.run _ X.stack _ _ ⟨Value.ref (s.heap.objs.size+1)::us,[]⟩ (Value.ref (s.heap.objs.size+1)::(us++c)) _ _ E (J.make C us [])
  (d.Rm.make C us []) (B _ (Value.ref (s.heap.objs.size+1)::us) d.ur G) n m) λr O a => ?_))
 cases r with
 |error e=>show K q w _ _ e O d a
 |ok z=>
  cases z with
  |ret P=>obtain⟨v,o,t,N,y,L⟩:=d.after a;subst y;show⟨N,⟨V.ref (s.heap.objs.size+1),o,t,rfl,L⟩⟩
  |next=>show False.elim a
  |brk=>show False.elim a
  |cont=>show False.elim a
theorem M_(M:Mk X.K C f)(F:j7 X.prog X.w X.K X.mg X.base i k f j g h)(w:fq (k+1) X.A)(s:Gl X x)(u:X.mg x=some (.ref C))(o:Binds X.K j g c)(q:bW b c)(y:gg i X E)
 (n:PA X (e::d) t) (l:autoParam ((x==("__debug__" :Str))=false) cL._auto_3) (r:autoParam (starEach (e::d) X.env=(false,eval e X.env)::starEach d X.env) cL._auto_6) (v:autoParam ((backTo a (starEach d X.env)).any (·.1)=false) cL._auto_6):
 PE X (.Call (.Name x p) (e::d) [] a) (Dq C h b E t):=by
 intro z A B H Q I m;show Y3 (nT I s u ?_ l);show abg (h₀:=X.base) I.ok.mod.QD M.kp (dz (n z A B H _ I m) λG Q⟨J,D,l,u,s⟩=>⟨l.ur,?_⟩) r v;show Dr M F w o q y l u s
theorem Ku(M:Mk X.K C f)(F:j7 X.prog X.w X.K X.mg X.base i k f j g h)(q:fq (k+1) X.A)(n:Gl X x)(o:X.mg x=some (.ref C))(e:Binds X.K j g c)(l:bW b c)(r:gg i X E)
 (m:autoParam ((x==("__debug__" :Str))=false) cL._auto_3):PE X (.Call (.Name x p) [] [] a) (Dq C h b E F2):=by
 intro s t u H Q I d;show Y3 (nT I n o ?_ m);show W.callWith_K0 I.ur M.kp (Dr (us:=[]) M F q e l r I .nil d)
end
section
variable{X:Cx}{l:Kr}{k:Nat}{f C:ai}{q:FuncData}{n i:ah Str}{h:Sp}{E:XK}{x m:Str}{p c a b:Pos}{e o:bx}{g:ah bx}{d:ah Keyword}{j s:TE}{t tk:TA}{r:az Str}
variable{v:ah ak->ah ak->ah ak}{u:ah V->ah V->ah V}
end
structure iS(N P:ah Str)(sc:Scope):Prop where
 kind:sc.kind= .function
 co:sc.isCoroutine=false
 gen:sc.isGenerator=false
 nd:N.Nodup
 pre:N.take P.length=P
 par:∀x∈P,sc.names.lookup x=some .local∨sc.names.lookup x=some .cell
 Pq:∀y∈sc.names,y.2≠.free
theorem Ac{kindOf:Str->az NameKind}:∀{binds}{m},(∀v,(x,v)∉binds)->bindL kindOf binds m x=m x
 |[],_,_=>rfl
 |(n,v)::r,m,h=>by
  unfold bindL;rw[Ac λw hw=>h w (Wz _ hw)];split;have:x≠n:=by rintro rfl;show h v WD
  simp[this];rfl
theorem Ad{kindOf:Str->az NameKind}:∀{binds}{m},(∀v,(x,v)∉binds)->bindC kindOf binds m x=m x
 |[],_,_=>rfl
 |(n,v)::r,m,h=>by
  unfold bindC;rw[Ad λw hw=>h w (Wz _ hw)];split;rfl;have:x≠n:=by rintro rfl;show h v WD
  simp[this]
theorem kY{kindOf:Str->az NameKind}:∀{P:ah Str}{vs:ah ak}{i:Nat}{m:Str->az ak},P.Nodup->P[i]? =some x->vs[i]? =some v->kindOf x=some .local->
 bindL kindOf (P.zip vs) m x=some v
 |[],_,_,_,_,h,_,_=>by simp at h
 |_::_,[],_,_,_,_,h,_=>by simp at h
 |p::P,w::vs,0,m,c,a,b,h=>by simp at a b;subst a;subst b;change bindL kindOf ((p,w)::P.zip vs) m p=_;unfold bindL;rw[Ac λv d=>(XF.mp c).1 (aax d).1,Wt h];simp
 |p::P,w::vs,i+1,m,c,a,b,h=>by change bindL kindOf ((p,w)::P.zip vs) m x=_;unfold bindL;show kY (i:=i) (XF.mp c).2 (by simpa using a) (by simpa using b) h
theorem Ae{kindOf:Str->az NameKind}:∀{P:ah Str}{a:ah ak}{i:Nat}{m:Str->az ak},P.Nodup->P[i]? =some x->a[i]? =some v->kindOf x≠some .local->
 bindC kindOf (P.zip a) m x=some v
 |[],_,_,_,_,h,_,_=>by simp at h
 |_::_,[],_,_,_,_,h,_=>by simp at h
 |p::P,w::a,0,m,d,b,c,h=>by simp at b c;subst b;subst c;change bindC kindOf ((p,w)::P.zip a) m p=_;unfold bindC;rw[Ad λv e=>(XF.mp d).1 (aax e).1,Wn h];simp
 |p::P,w::a,i+1,m,d,b,c,h=>by change bindC kindOf ((p,w)::P.zip a) m x=_;unfold bindC;show Ae (i:=i) (XF.mp d).2 (by simpa using b) (by simpa using c) h
def start(N:ah Str)(a:ah V):St:=a.map some++List.replicate (N.length-a.length) none
noncomputable def uH (e:Kr) (P:aS) (w:aU) (K:ay) (mg:Str->az ak) (base:aX) (N:ah Str) (b:Str) (c:Scope) (f:ai) (a:ak) (A:bC) (outer:ah Env) (s:aq) (H:Hp) (E:XK):Cx where
 prog:=P
 w:=w
 K:=K
 mg:=mg
 base:=base
 A:=A.deeper (envOfC b c s.heap.objs.size f a)
 N:=N
 s8:=s
 MX:=H
 env:=envOfC b c s.heap.objs.size f a
 outer:=outer
 stack:=envOfC b c s.heap.objs.size f a::outer
 ex:=[]
 calm:=true
 fn:=λ_=>true
 pn:=[]
 xe:=λg i =>wpAny (model P w) (A.deeper (envOfC b c s.heap.objs.size f a)) (leaving (envOfC b c s.heap.objs.size f a) g) (λ_ d =>e outer H s E g d) (λh d =>e outer H s E h d) i
theorem Ds{a:Scope}{n:Nat}{x:Str}(h:a.names.lookup x=some .cell):∃c,(cellsFrom n a.names []).lookup x=some c:=by have q:=W.cellsFrom_some a.names n [] (.inl h);show YJ.mp q
theorem I7{K:ay}
 (S:iS N g e) (m:A.handled=none) (b:F3 P w K y i A n s H) (k:h.length=g.length) (r:bW h c)
 (x:InCallC s s.heap.objs.size (bindL (envOfC d e s.heap.objs.size f a).kindOf (g.zip c) λ_=>none) (cellsFrom (s.heap.objs.size+1) e.names []) (bindC (envOfC d e s.heap.objs.size f a).kindOf (g.zip c) λ_=>none) z):
 Inv (uH q P w K y i N d e f a A n s H E) [] (start N h) H z:=by
 have c:g.length<=N.length:=by have:=XE List.length S.pre;rw[Xo]at this;lia
 obtain⟨j,tk,rfl,l⟩:=x.done;have k:∀c:ai,c∉(uH q P w K y i N d e f a A n s H E).ex:=λc z=>absurd (show c∈([]:ah ai)from z) (by simp)
 show⟨⟨b.mod,S.kind,rfl,rfl,Wu _,λy z d j a=> ?_,λy f=> ?_,λy d _ i=> ?_,λ_=>m,Around.frames_deeper b.frames,.inr ⟨rfl,rfl⟩,λc z=>absurd z (k c),b.bs,b.MY,λc _ _=>k c,λc z=>absurd z (k c),b.sS,b.QG⟩,
  rfl,b.bare,Un.kept l,⟨_,x.toInCall.ns,λk y v j a c=> ?_⟩,λy d i=>⟨_,x.cell y d i⟩,b.dD.fresh (Wu _),λy d i=> ?_,λp z=>absurd (show p∈([]:ah (ai×aV))from z) (by simp),b.dD.kept l,?_⟩
 show name_of_addr x.apart (Xm j) (Xm a);have f:e.names.lookup y=some .cell∨e.names.lookup y=some .free:=f;rcases f with f|f
 show Ds f;show absurd rfl (S.Pq _ (Xm f));show Zn (x.above y d (Xm i));have c:k<h.length:=by unfold start at a;by_cases c:k<h.length;show c;rw[Y4 (by simpa using c)]at a;rw[Z4]at a;split at a<;>cases a
 have f:h[k]? =some v:=by
  unfold start at a;rw[Y8 (by simpa using c),Ws]at a;cases c:h[k]? with
  |none=>rw[c]at a;cases a
  |some q=>rw[c]at a;cases a;rfl
 obtain⟨u,a,q⟩:=r.get f;have z:g[k]? =some y:=by rw[<- S.pre,List.getElem?_take_of_lt (by lia)];show j
 have f:g.Nodup:=by rw[<- S.pre];show S.nd.sublist (aaY _ _)
 show⟨u,q,?_⟩;rcases S.par y (Wq z)with k|k
 show .inl ⟨k,kY f z a k⟩;obtain⟨d,c⟩:=Ds (n:=s.heap.objs.size+1) k;show .inr ⟨.inl k,d,c,?_⟩;have q:=x.cell y d c;rw[Ae f z a (by change e.names.lookup y≠_;rw[k];decide)]at q;show q;show b.dD.fresh (Zn (x.above y d (Xm i)));unfold start;change _=N.length;rw[WY,Wl,abq]
 lia
theorem Rn{K:ay}{O:Nat}{G kV I R d F xJ:ak}
 (xF:K.lookup i=some ⟨xJ,xP,.func (W.fnOf xH g xK D a G kV I R Z d F),xQ⟩) (xq:W.codeIn K d g=true) (S:iS N x a)
 (len:∀b H Q E,U b H Q E->b.length=x.length)
 (xj:∀(A:bC)(f:ah Env)(s:aq)(H:Hp)(b:ah V)(Q:VK)(E:XK),fq O (A.deeper (envOfC g a s.heap.objs.size i d))->U b H Q E->
   ∃z,Dj (uH l P w K p n N g a i d A f s H E) D z/\z {nx:=λ_ c =>Q .non c,rt:=Q} (start N b) H):
 j7 P w K p n l (O+1) i (W.fnOf xH g xK D a G kV I R Z d F) x U:=by
 show⟨len,λA f s H args xN b Q E o h xh xM M=> ?_⟩;have xx:=len _ _ _ _ M;have C:=h.mod.QD.keeps λm r j=>(h.bs m r j).1;have xE:=h.mod.nolimit.keeps λm r j=>(h.bs m r j).1
 have xu:∀B∈x.zip xN,a.names.lookup B.1=some .local∨(a.names.lookup B.1=some .cell/\((cellsFrom (s.heap.objs.size+1) a.names []).lookup B.1).isSome=true):=λ⟨xG,v⟩ xC=>by
  rcases S.par xG (aax xC).1 with q|q
  show .inl q;show .inr ⟨q,W.cellsFrom_some _ _ _ (.inl q)⟩
 show codeAny_call_function o.depth (C _ _ xF) rfl S.co S.gen rfl (W.codeRec_of C xq) (xh _ _ _ _ ?_);show aaK S.kind xu λxO xr T X=> ?_;subst xr;show⟨xE.keeps X.toInCall.keep,codeAny_func ?_⟩;obtain⟨z,xB,xA⟩:=xj A f s H b Q E (o.deeper _) M;have Y:Inv (uH l P w K p n N g a i d A f s H E) [] (start N b) H T:=I7 S o.hd h xx xM X;show Yp (xB T (start N b) H _ Y xA) (λxg y e=> ?_) λj y e=>e
 have L:∀{k :St}{c :Hp}{v:V}{u:ak},Inv (uH l P w K p n N g a i d A f s H E) [] k c y->RelV v u->Q v c->CE f P w H s Q u y :=
  λ{k c v u} J t q=>⟨v,c,J.os,J.bare,J.base,J.dD,t,q⟩
 cases xg with
 |ret u=>obtain⟨v,k,c,J,t,q⟩:=e;show L J t q
 |next=>obtain⟨k,c,J,q⟩:=e;show L (v:=V.non) (u:=Value.none) J rfl q
 |brk=>obtain⟨_,_,_,q⟩:=e;show False.elim q
 |cont=>obtain⟨_,_,_,q⟩:=e;show False.elim q
end L2
namespace L2
open PySem PySem.Spec PyProof.Rows
section
variable{X:Cx}{x:Str}{p b:Pos}{e:bx}{a:ah bx}{t:TA}{id T:aC}{r:ah V->Hp->VK->Prop}
def Tp(r:ah V->Hp->VK->Prop)(t:TA):TE:=λc H Q=>t c H λb a=>r b a Q
theorem bw(i:fz X (.builtin id) r)(f:Gl X x)(k:X.mg x=none)(n:bootBuiltins x=some (.builtin id))(g:PA X (e::a) t)(l:autoParam (x≠"__name__") cL._auto_3)(d:autoParam ((x==("__debug__" :Str))=false) cL._auto_3)
 (j:autoParam (starEach (e::a) X.env=(false,eval e X.env)::starEach a X.env) cL._auto_6) (m:autoParam ((backTo b (starEach a X.env)).any (·.1)=false) cL._auto_6):PE X (.Call (.Name x p) (e::a) [] b) (Tp r t):=by
 intro o s c H Q I h;show Y3 (qV I f k n ?_ l d);show PyProof.Rows.callWith_builtin1 (dz (g o s c H _ I h) λq n⟨u,d,f,l,k⟩=>i n c d u q Q f l k) j m
theorem dH(i:fz X (.type T) r)(f:Gl X x)(k:X.mg x=none)(n:bootBuiltins x=some (.type T))(g:PA X (e::a) t)(l:autoParam (x≠"__name__") cL._auto_3)(d:autoParam ((x==("__debug__" :Str))=false) cL._auto_3)
 (j:autoParam (starEach (e::a) X.env=(false,eval e X.env)::starEach a X.env) cL._auto_6) (m:autoParam ((backTo b (starEach a X.env)).any (·.1)=false) cL._auto_6):PE X (.Call (.Name x p) (e::a) [] b) (Tp r t):=by
 intro o s c H Q I h;show Y3 (qV I f k n ?_ l d);show Ys (dz (g o s c H _ I h) λq n⟨u,d,f,l,k⟩=>i n c d u q Q f l k) j m
end
end L2
namespace HT
open PySem PyProof.Rows
section
open PySem.SeqAt
open PySem.AutoSeq1 (wpAny_loadPart')
open PySem.MeetsSeq PySem.MeetsSeq2 PySem.MeetsSeq3
end
section
variable{a:aS}{w:aU}{A:bC}{E:ak->aq->Prop}{s:aq}
theorem Nb{t d:ai}(f:IsTup s.heap t c.toArray)(u:IsTup s.heap d b.toArray)(l:c≠[])
 (q:b=[]->Q (.ref t) s) (r:b≠[]->Q (.ref s.heap.objs.size) {s with heap:=s.heap.push {cls:= .type "tuple",data:= .seq (c++b).toArray}})
 (v:c.length+b.length<=sizeLine):wpAny (model a w) A (binaryOp .Add (.ref t) (.ref d)) Q E s:=by
 obtain⟨⟨cls,Q,data,o⟩,e,h,n,j⟩:=id f;obtain⟨⟨x,g,data2,p⟩,f,i,m,k⟩:=id u;simp only at h j i k;subst h j i k;have h:c.toArray++b.toArray=(c++b).toArray:=by simp
 by_cases hw:b=[]
 show concat_meets ⟨_,e,rfl⟩ ⟨_,f,rfl⟩ aa_ abH aa' aaZ (aaL _ _)
  (tuple_addW1 t d c.toArray b.toArray n m Q g o p (by simpa using l) (by simp[hw])) ⟨e,f,q hw⟩
 show concat_meets ⟨_,e,rfl⟩ ⟨_,f,rfl⟩ aa_ abH aa' aaZ (aaL _ _)
  (tuple_addW2 t d c.toArray b.toArray n m Q g o p (by simpa using l) (by simpa using hw) (by rw[WU,WU];show v)) ⟨e,f,?_⟩
 rw[h];show r hw
noncomputable def eK (n d:Nat):az Int->Nat
 |none=>d
 |some v=>if v<0 then(v+(n:Int)).toNat else min v.toNat n
theorem mX n d:eK n d none=d:=rfl
theorem gy(n d k:Nat):eK n d (some (k:Int))=min k n:=by change(if(k:Int)<0 then((k:Int)+(n:Int)).toNat else min (k:Int).toNat n)=min k n;rw[Wn (by lia),WQ]
theorem F5 n d(v:d<=n) o:eK n d o<=n:=by
 cases o with
 |none=>show v
 |some v=>change(if v<0 then(v+(n:Int)).toNat else min v.toNat n)<=n;by_cases d:v<0;rw[Wt d];lia;rw[Wn d];show aap _ _
theorem HB(v:Int)(n d:Nat):(if v<0 then max (v+(n:Int)) 0 else min v (n:Int))=((eK n d (some v):Nat):Int):=by change(if v<0 then max (v+(n:Int)) 0 else min v (n:Int))=(((if v<0 then(v+(n:Int)).toNat else min v.toNat n):Nat):Int);by_cases n:v<0;simp only[Wt n];show(abk _).symm;simp only[Wn n];lia
theorem F6(lo a:az Int)(n:Nat):Builtin.Slice.sliceAdjust lo a 1 (n:Int)=(((eK n 0 lo:Nat):Int),((eK n n a:Nat):Int)):=by
 have v:¬((1:Int)<0):=by lia
 unfold Builtin.Slice.sliceAdjust;simp only[v,YN];show Z8 ?_ ?_;cases lo with
 |none=>rfl
 |some v=>show HB v n 0
 cases a with
 |none=>rfl
 |some v=>show HB v n n
theorem F7(i j:Nat):Builtin.Slice.slicePlaces (i:Int) (j:Int) 1=j-i:=by
 unfold Builtin.Slice.slicePlaces;have i:(1:Int)>0:=by lia
 simp only[i,Za,Int.ediv_one];split<;>lia
theorem uI(p:IsPart v o)(h:Q o s):wpAny (model a w) A (Builtin.Slice.slicePartIndex v) Q E s:=by
 cases p with
 |none=>show slicePart_none h
 |int i t=>show slicePart_int h
theorem qY{c:ai}{e f:ak}{lo b:az Int}{n:Nat}{Q:Int×Int×Nat->aq->Prop}(g:s.heap.IsSliceOf c e f .none)(i:IsPart e lo)(j:IsPart f b)
 (h:Q (((eK n 0 lo:Nat):Int),1,eK n n b-eK n 0 lo) s):wpAny (model a w) A (Builtin.Slice.sliceApplied (.ref c) (pure (n:Int))) Q E s:=by
 obtain⟨os,d,Q,c⟩:=id g;unfold Builtin.Slice.sliceApplied Builtin.Slice.sliceFields;show Wm (Wm (Yl d c (x:=e) rfl (Wm (Yl d c (x:=f) rfl (Wm (Yl d c (x:= .none) rfl (Ww ?_)))))));show Wm (slicePart_none ?_);rw[Wn (by decide)];show Wm (uI i (Wm (uI j (Wm (Ww ?_)))));change wpAny _ _ (match Builtin.Slice.sliceAdjust lo b 1 (n:Int)with|(lo,b)=>pure (lo,(1:Int),Builtin.Slice.slicePlaces lo b 1)) _ _ s;rw[F6 lo b n];change wpAny _ _ (pure (((eK n 0 lo:Nat):Int),(1:Int),Builtin.Slice.slicePlaces ((eK n 0 lo:Nat):Int) ((eK n n b:Nat):Int) 1)) _ _ s;rw[F7];show Ww h
theorem Kv(a:Array ak)(i k:Nat):((List.range k).filterMap λ(m:Nat)=>a[((i:Int)+(m:Int)*1).toNat]?).toArray=((a.toList.drop i).take k).toArray:=by
 have e:(λ(m:Nat)=>a[((i:Int)+(m:Int)*1).toNat]?)=λm=>a[i+m]? :=by
  funext m;have:((i:Int)+(m:Int)*1).toNat=i+m:=by lia
  rw[this]
 rw[e];have:=pick_run a i k;rw[List.filterMap_map]at this;have e:((λx=>a[x]?)∘λx=>i+x)=λm=>a[i+m]? :=rfl;rw[e]at this;rw[this]
theorem p6{t q:ai}{lo c:az Int}(d:IsTup s.heap t b)(f:s.heap.IsSliceOf q g e .none)(j:IsPart g lo)(k:IsPart e c)
 (hw:¬(eK b.size 0 lo=0/\eK b.size b.size c=b.size))
 (h:Q (.ref s.heap.objs.size) {s with heap:=s.heap.push {cls:= .type "tuple",data:= .seq ((b.toList.drop (eK b.size 0 lo)).take (eK b.size b.size c-eK b.size 0 lo)).toArray}})
 (g:b.size<=sizeLine):wpAny (model a w) A (getItem (.ref t) (.ref q)) Q E s:=by
 have e:sizeOk (.seq ((b.toList.drop (eK b.size 0 lo)).take (eK b.size b.size c-eK b.size 0 lo)).toArray):=by change((b.toList.drop (eK b.size 0 lo)).take (eK b.size b.size c-eK b.size 0 lo)).toArray.size<=sizeLine;rw[WU,Xo,Xu,Yz];show Xi (aap _ _) (Xi (abX _ _) g)
 have Q:eK b.size b.size c<=b.size:=F5 _ _ (Wu _) c;obtain⟨os,i,g,Q⟩:=id f;have Q:s.TypeIs (.ref q) "slice" :=⟨os,i,g⟩;unfold getItem
 try with_reducible show YY ?_
 first|show Wm (Ww ?_)|skip
 show Wm (wpAny_sequenceKey d.typeIs (by decide) ?_)
 show Wm (X5 (name:=Str.ofString "__getitem__") d.typeIs Zf
  (Yb Zf d.typeIs entry_tuple_getitem ?_ (args_tuple_getitem _ _)))
 change wpAny _ _ (Builtin.Tuple.tupleItemsOf (.ref t)>>=_) _ _ s;show Wm (tupleItemsOf_ d ?_);show Wm (wpAny_typeOf Q ?_);rw[Wt (by decide)];show Wm (qY f j k ?_);have Q:¬((((eK b.size 0 lo:Nat):Int)==0&&(1:Int)==1&&(eK b.size b.size c-eK b.size 0 lo)==b.size)=true):=by intro q;rw[WV,WV]at q;have g:=eq_of_beq q.1.1;have g:eK b.size b.size c-eK b.size 0 lo=b.size:=eq_of_beq q.2;show hw ⟨by omega,by omega⟩
 change wpAny _ _ (if(((eK b.size 0 lo:Nat):Int)==0&&(1:Int)==1&&(eK b.size b.size c-eK b.size 0 lo)==b.size)=true then _ else _) _ _ s;rw[Wn Q,Kv]
 first
  |show Wm (m:=Builtin.Tuple.tupleExact _) (Xp (Ww ⟨_,rfl,Ww h⟩) e)
  |show Wm (m:=Builtin.Tuple.tupleExact _) (Xp (Wm (Ww (Ww ⟨_,rfl,Ww h⟩))) e)
  |show Wm (Wm (m:=Builtin.Tuple.tupleExact _) (Xp (Ww (Ww ⟨_,rfl,Ww h⟩)) e))
  |show Wm (Wm (m:=Builtin.Tuple.tupleExact _) (Xp (Ww ⟨_,rfl,Ww h⟩) e))
end
end HT
namespace L2
open PySem PySem.Spec PyProof.Rows
abbrev TO:=St->Hp->(az Int->Hp->Prop)->Prop
def PO(X:Cx)(e:az bx)(t:TO):Prop:=
 ∀⦃b:ah (ai×aV)⦄(s:aq) (a:St) (H:Hp) (Q:az Int->Hp->Prop),Inv X b a H s->t a H Q->
  wpAny (model X.prog X.w) X.A (evalPart e X.env) (λu c =>∃o H,Inv X b a H c/\IsPart u o/\Q o H) X.xe s
def HC:TO:=λ_ H Q=>Q none H
def Ol(t:TE):TO:=λb H Q=>t b H λx a=>∃i,x= .int i/\Q (some i) a
section
variable{X:Cx}{e:bx}{b:TE}{lo a:az bx}{tl c:TO}{f d:Pos}
theorem p7:PO X none HC:=by intro a s b H Q I h;rw[evalPart_none];show Ww ⟨none,H,I,.none,h⟩
theorem ek(h:PE X e b):PO X (some e) (Ol b):=by intro a s q H Q I hw;rw[evalPart_some];show dz (h s q H _ I hw) λu t⟨x,a,c,f,d⟩=> ?_;obtain⟨i,rfl,q⟩:=d;obtain⟨t,rfl⟩:=f;show⟨some i,a,c,.int i t,q⟩
def QJ(X:Cx)(r:V->az Int->az Int->Hp->VK->Prop):Prop:=
 ∀⦃b:ah (ai×aV)⦄(s:aq) (e:St) (H:Hp) (x:V) (v T d:ak) (lo a:az Int) (c:ai) (Q:VK),Inv X b e H s->RelV x v->s.heap.IsSliceOf c T d .none->IsPart T lo->IsPart d a->r x lo a H Q->
  ∃T id,typeLookup (.type T) "__getitem__" =pure (some (.builtin id))/\s.TypeIs v T/\wpAny (model X.prog X.w) X.A (getItem v (.ref c)) (EP X b e Q) X.xe s
def UX(r:V->az Int->az Int->Hp->VK->Prop)(b:TE)(tl c:TO):TE:=λa H Q=>b a H λx d=>tl a d λl e=>c a e λu f=>r x l u f Q
theorem fL(p:QJ X r)(i:PE X e b)(o:PO X lo tl)(q:PO X a c):PE X (.Subscript e (.Slice lo a none d) f) (UX r b tl c):=by intro t s h H Q I g;show Subscript_ (dz (i s h H _ I g) λv C⟨x,l,m,B,y⟩=> ?_);show wpAny_Slice (dz (o C h l _ m y) λi D⟨s,H,I,u,z⟩=>dz (q D h H _ I z) λj g⟨E,k,n,w,A⟩=> ?_);rw[evalPart_none];show Ww ?_;have H:Inv X t h k {g with heap:=g.heap.push {cls:= .type "slice",data:= .fields #[i,j,.none]}}:=n.kept (t' :=g.toks) λI ob q=>Wv _ q;obtain⟨T,id,I,m,l⟩:=p {g with heap:=g.heap.push {cls:= .type "slice",data:= .fields #[i,j,.none]}} h k x v i j s E g.heap.objs.size Q H B (Heap.IsSliceOf.new ..) u w A;show tail_any (ops:=[.ref g.heap.objs.size,v]) m I l (by with_unfolding_all rfl)
def jy(xs:ah V)(lo a:az Int):ah V:=(xs.drop (HT.eK xs.length 0 lo)).take (HT.eK xs.length xs.length a-HT.eK xs.length 0 lo)
theorem rW b lo a:(jy b lo a).length<=b.length:=by unfold jy;rw[Xo,Xu];show Xi (aap _ _) (abX _ _)
def Ro(K:ay):V->az Int->az Int->Hp->VK->Prop:=λx lo a H Q=>∃p b,x= .ref p/\dO K H p b/\
 ¬(HT.eK b.length 0 lo=0/\HT.eK b.length b.length a=b.length)/\∀p,H p=none->Q (.ref p) (upd H p (.tup (jy b lo a)))
theorem Kw:QJ X (Ro X.K):=by
 intro c s r H x v b q lo a e Q I d f g i h;obtain⟨e,b,rfl,c,hw,q⟩:=h;cases d;obtain⟨h,r,d,e⟩:=I.tuple c;have c:h.toArray.size=b.length:=by rw[WU];show r.length.symm
 show⟨"tuple",_,Zf.lookup,d.typeIs,?_⟩;show HT.p6 d f g i (by rw[c];show hw) ?_ (by rw[c];show e);rw[c];show⟨.ref s.heap.objs.size,_,I.laid (t' :=s.toks) (o:= .tup (jy b lo a)) (λc ob q=>Wv _ q) (Wu _) ?_,rfl,q _ (I.dD.fresh (Wu _))⟩;show⟨Xi (rW b lo a) e,_,(r.drop (HT.eK b.length 0 lo)).take (HT.eK b.length b.length a-HT.eK b.length 0 lo),IsTup.new _ _⟩
def Rp(K:ay):R2:=λx y H Q=>∃c p b a,x= .ref c/\y= .ref p/\dO K H c b/\dO K H p a/\b≠[]/\b.length+a.length<=sizeLine/\
 (a=[]->Q (.ref c) H)/\(a≠[]->∀p,H p=none->Q (.ref p) (upd H p (.tup (b++a))))
theorem bW.tu(r:bW h g):g=[]↔h=[]:=by
 cases r with
 |nil=>simp
 |cons _ _=>simp
theorem Nc:pR X (binaryOp .Add) (Rp X.K):=by intro a s q H x y v u Q I b j h;obtain⟨e,f,k,l,rfl,rfl,a,z,g,c,q,i⟩:=h;cases b;cases j;obtain⟨j,b,h,_⟩:=I.tuple a;obtain⟨j,a,d,_⟩:=I.tuple z;show HT.Nb h d (λz=>g (b.tu.mp z)) (λz=>⟨.ref e,H,I,rfl,q (a.tu.mp z)⟩) (λz=> ?_) (by rw[<- b.length,<- a.length];show c);show⟨.ref s.heap.objs.size,_,I.laid (t' :=s.toks) (o:= .tup (k++l)) (λf ob q=>Wv _ q) (Wu _) ?_,rfl,i (λw=>z (a.tu.mpr w)) _ (I.dD.fresh (Wu _))⟩;show⟨by rw[WY];show c,_,b.append a,IsTup.new _ _⟩
end
end L2
namespace L2
open PySem PySem.Spec PyProof.Rows
noncomputable def Pr (n:Nat) (i:Int):az Nat:=if 0<=i then(if i<n then some i.toNat else none)else if-(n:Int)<=i then some (i+n).toNat else none
def oA(xs:ah a)(i:Int):az a:=(Pr xs.length i).bind λj=>xs[j]?
theorem Nf(h:Pr n i=some j):seqIndex? i n=some j/\j<n/\-(n:Int)<=i/\i<n:=by unfold Pr at h;by_cases b:0<=i;rw[Wt b]at h;by_cases a:i<n;rw[Wt a]at h;have e:=W5 h;show⟨by rw[seqIndex_of b a,e],by lia,by lia,a⟩;rw[Wn a]at h;cases h;rw[Wn b]at h;by_cases a: -(n:Int)<=i;rw[Wt a]at h;have e:=W5 h;show⟨by rw[seqIndex_neg (by lia) a,e],by lia,a,by lia⟩;rw[Wn a]at h;cases h
theorem BI(h:oA a i=some v):∃j,seqIndex? i a.length=some j/\a[j]? =some v/\j<a.length/\-(a.length:Int)<=i/\i<a.length:=by
 unfold oA at h;cases e:Pr a.length i with
 |none=>rw[e]at h;cases h
 |some j=>rw[e]at h;obtain⟨a,i,b,c⟩:=Nf e;show⟨j,a,h,i,b,c⟩
theorem bJ{a:Type}{xs:ah a}{j:Nat}{v:a}(h:xs[j]? =some v):oA xs (j:Int)=some v:=by
 have a:=(Wo.mp h).1;have e:Pr xs.length (j:Int)=some j:=by unfold Pr;rw[Wt (by lia),Wt (by lia)];simp
 unfold oA;rw[e];show h
def Ng(b:bx):Prop:=∀o i,subscripted b false o i=operate [o,i] (getItem o i)
def ML(X:Cx)(r:R2):Prop:=
 ∀(d b:bx)(a:ah (ai×aV))(s:aq)(c:St)(H:Hp)(x y:V)(v u:ak)(Q:VK),Inv X a c H s->RelV x v->RelV y u->r x y H Q->
  subscripted b false v u=operate [v,u] (getItem v u)->wpAny (model X.prog X.w) X.A (subscriptTail d b v u) (EP X a c Q) X.xe s
def QK(X:Cx)(id:aC)(r:V->ah V->Hp->VK->Prop):Prop:=
 ∀⦃a:ah (ai×aV)⦄(s:aq) (d:St) (H:Hp) (x:V) (c:ah V) (v:ak) (b:ah ak) (Q:VK),Inv X a d H s->RelV x v->bW c b->r x c H Q->
  wpAny (model X.prog X.w) X.A (call (.builtin id) (v::b)) (EP X a d Q) X.xe s
section
variable{X:Cx}{a b:bx}{d f:TE}{e:Pos}
theorem bH(k:ML X r)(i:PE X a d)(j:PE X b f)(l:autoParam (Ng b) cL._auto_9):PE X (.Subscript a b e) (Pg r d f):=by intro m s t H Q I h;show Subscript_ (Ph i j I h λv u p x y c g n o q=>k a b m p t c x y v u Q g n o q (l _ _))
def Nh(K:ay):R2:=λx y H Q=>∃p xs i v,x= .ref p/\y= .int i/\bG K H p xs/\oA xs i=some v/\Q v H
def F8(K:ay):R2:=λx y H Q=>∃p xs i v,x= .ref p/\y= .int i/\dO K H p xs/\oA xs i=some v/\Q v H
def Rq:R2:=λx y H Q=>∃z i c,x= .str z/\y= .int i/\z.length<=sizeLine/\oA z.cps.toList i=some c/\Q (.str ⟨#[c]⟩) H
theorem aY:ML X (Nh X.K):=by
 intro d b g s h H x y v u Q I c e a f;obtain⟨p,xs,i,z,rfl,rfl,b,d,q⟩:=a;cases c;obtain⟨t,rfl⟩:=e;obtain⟨n,r,c,a⟩:=I.list b;obtain⟨j,a,b,e,k,l⟩:=BI d;obtain⟨w,d,o⟩:=r.get b;have m:=r.length;have b:=uC;have e:EP X g h Q w s:=⟨z,H,I,o,q⟩;by_cases I:0<=i;have b:i.toNat=j:=by rw[seqIndex_of I l]at a;show W5 a
 show item_listR c.isList I (by lia) (by rw[b];simpa using d) e f;have b:(i+(n.toArray.size:Int)).toNat=j:=by rw[seqIndex_neg (by lia) k]at a;rw[WU,<- m];show W5 a
 show subscriptTail_builtinR (x:=w) c.isList.typeIs slot_list_getitem.lookup
  (wpAny_getItem_list_neg (Q:=λr a =>r=w/\EP X g h Q r a) c.isList (by lia) (by rw[WU]<;>lia) (by lia) (by rw[b];simpa using d) ⟨rfl,e⟩) f
theorem gh:ML X (F8 X.K):=by
 intro k e a s c H x y v u Q I b f h g;obtain⟨p,xs,i,z,rfl,rfl,e,d,q⟩:=h;cases b;obtain⟨t,rfl⟩:=f;obtain⟨k,r,b,f⟩:=I.tuple e;obtain⟨j,h,e,f,k,w⟩:=BI d;obtain⟨w,d,k⟩:=r.get e;have f:=r.length;have e:=uC;have e:EP X a c Q w s:=⟨z,H,I,k,q⟩
 show subscriptTail_builtinR (x:=w) b.typeIs slot_tuple_getitem.lookup
  (getItem_tuple (j:=j) (Q:=λr k =>r=w/\EP X a c Q r k) b (by lia) (by lia) (by rw[WU,<- f];show h) (by simpa using d) ⟨rfl,e⟩) g
theorem uJ:ML X Rq:=by
 intro d z e s i H x y v u Q I b a h f;obtain⟨z,i,c,rfl,rfl,Q,e,q⟩:=h;obtain⟨t,rfl⟩:=b;obtain⟨b,rfl⟩:=a;obtain⟨j,a,h,Q,b,d⟩:=BI e;have e:z.cps.toList.length=z.length:=by simp[Str.length]
 rw[e]at a b d;have b:=uC;show tail_any (abL s z t) slot_str_getitem.lookup (getItem_str (c:=c) (by have z:decide (i< -(2 ^ 63:Int))=false:=WC (by lia);have b:decide (i≥2 ^ 63)=false:=WC (by lia);rw[z,b,Bool.or_false]) (by rw[a];simpa using h) ⟨.str ⟨#[c]⟩,H,I.tok _,⟨_,rfl⟩,q⟩) f
theorem BJ lo a n:(sliceBounds lo a none n).1=((HT.eK n 0 lo:Nat):Int)/\(sliceBounds lo a none n).2.1=((HT.eK n n a:Nat):Int)/\(sliceBounds lo a none n).2.2=1:=by
 show⟨?_,?_,rfl⟩;cases lo with
 |none=>simp[sliceBounds,HT.eK]
 |some i=>simp only[sliceBounds,HT.eK,Option.getD_none,show(1:Int)>0 by decide,Za];by_cases h:i<0;simp only[h,Za];rw[abk,Int.min_eq_left (by lia),Int.max_comm];simp only[h,YN]<;>lia
 cases a with
 |none=>simp[sliceBounds,HT.eK]
 |some i=>simp only[sliceBounds,HT.eK,Option.getD_none,show(1:Int)>0 by decide,Za];by_cases h:i<0;simp only[h,Za];rw[abk,Int.min_eq_left (by lia),Int.max_comm];simp only[h,YN]<;>lia
theorem w6(a:ah ak)(lo b:az Int):slicePick a.toArray lo b none=((a.drop (HT.eK a.length 0 lo)).take (HT.eK a.length a.length b-HT.eK a.length 0 lo)).toArray:=by obtain⟨c,d,e⟩:=BJ lo b a.toArray.size;unfold slicePick;rw[c,d,e];simp only[sliceRange_one,pick_run,WU]<;>rfl
def Ni(K:ay):V->az Int->az Int->Hp->VK->Prop:=λx lo b H Q=>∃a xs,x= .ref a/\bG K H a xs/\∀p,H p=none->Q (.ref p) (upd H p (.lst (jy xs lo b)))
theorem lI:QJ X (Ni X.K):=by intro f s l H x v q k lo c g Q I d e i j h;obtain⟨a,xs,rfl,f,q⟩:=h;cases d;obtain⟨h,r,d,g⟩:=I.list f;have h:=r.length;show⟨"list",_,slot_list_getitem.lookup,d.isList.typeIs,?_⟩;show wpAny_getItem_list_slice d.isList e i j .none (by simp) ?_ (by rw[WU]<;>lia);rw[w6,<- h];show⟨.ref s.heap.objs.size,_,I.laid (t' :=s.toks) (o:= .lst (jy xs lo c)) (λb ob q=>Wv _ q) (Wu _) ?_,rfl,q _ (I.dD.fresh (Wu _))⟩;show⟨Xi (rW xs lo c) g,_,0,(r.drop (HT.eK xs.length 0 lo)).take (HT.eK xs.length xs.length c-HT.eK xs.length 0 lo),WH _ rfl⟩
def jt:V->Bool
 | .non=>true
 | .bl _=>true
 | .int _=>true
 | .str _=>true
 |_=>false
noncomputable def J1:V->V->Bool
 | .non,.non=>true
 | .bl a,.bl b=>a==b
 | .bl a,.int b=>(if a then 1 else 0)==b
 | .int a,.bl b=>a==(if b then 1 else 0)
 | .int a,.int b=>a==b
 | .str a,.str b=>a==b
 |_,_=>false
theorem Pu(f:RelV y u)(c:RelV x v)(g:jt y=true)(e:jt x=true):SeqAt.EqAt A s u v (J1 y x):=by
 cases y with
 |non=>
  cases f;cases x with
  |non=>cases c;show SeqAt.EqAt.same _
  |bl b=>cases c;show SeqAt.EqAt.none_bool b
  |int b=>obtain⟨t,rfl⟩:=c;show SeqAt.EqAt.none_int b t
  |str b=>obtain⟨t,rfl⟩:=c;show SeqAt.EqAt.none_str b t
  |_=>show absurd (show false=true from e) W3
 |bl a=>
  cases f;cases x with
  |non=>cases c;show SeqAt.EqAt.bool_none a
  |bl b=>cases c;show SeqAt.EqAt.bool_bool a b
  |int b=>obtain⟨t,rfl⟩:=c;show SeqAt.EqAt.bool_int a b t
  |str b=>obtain⟨t,rfl⟩:=c;show SeqAt.EqAt.bool_str a b t
  |_=>show absurd (show false=true from e) W3
 |int a=>
  obtain⟨d,rfl⟩:=f;cases x with
  |non=>cases c;show SeqAt.EqAt.int_none a d
  |bl b=>cases c;show SeqAt.EqAt.int_bool a d b
  |int b=>obtain⟨t,rfl⟩:=c;show SeqAt.EqAt.int_int a d b t
  |str b=>obtain⟨t,rfl⟩:=c;show SeqAt.EqAt.int_str a d b t
  |_=>show absurd (show false=true from e) W3
 |str a=>
  obtain⟨d,rfl⟩:=f;cases x with
  |non=>cases c;show SeqAt.EqAt.str_none a d
  |bl b=>cases c;show SeqAt.EqAt.str_bool a d b
  |int b=>obtain⟨t,rfl⟩:=c;show SeqAt.EqAt.str_int a d b t
  |str b=>obtain⟨t,rfl⟩:=c;show SeqAt.EqAt.str_str a d b t
  |_=>show absurd (show false=true from e) W3
 |_=>show absurd (show false=true from g) W3
def Ft(x:V)(u:ak):Bool:=match u with
 | .none=>J1 .non x
 | .bool b=>J1 (.bl b) x
 | .int i _=>J1 (.int i) x
 | .str z _=>J1 (.str z) x
 |_=>false
theorem BK(r:RelV y u)(f:jt y=true):Ft x u=J1 y x:=by
 cases y with
 |non=>cases r;rfl
 |bl b=>cases r;rfl
 |int i=>obtain⟨t,rfl⟩:=r;rfl
 |str z=>obtain⟨t,rfl⟩:=r;rfl
 |_=>show absurd (show false=true from f) W3
theorem tD(h:bW c r)(f:c.all jt=true):r.any (Ft x)=c.any λy=>J1 y x:=by
 induction h with
 |nil=>rfl
 |cons r _ c=>rw[Zd,WV]at f;rw[Yn,Yn,BK r f.1,c f.2]
theorem kZ(e:RelV x v)(d:jt x=true):∀{c}{b},bW c b->c.all jt=true->∀u∈b,SeqAt.EqAt A s u v (Ft x u)
 |_,_,.nil,_=>λu a=>by cases a
 |y::c,u::b,.cons r t,f=>λx a=>by
  rw[Zd,WV]at f;rcases WB.mp a with rfl|a
  rw[BK r f.1];show Pu r e f.1 d;show kZ e d t f.2 x a
def F9(x:V)(a:ah V):Bool:=a.any λy=>J1 y x
def SK(K:ay)(b:Bool):R2:=λx y H Q=>∃p a,y= .ref p/\(bG K H p a∨dO K H p a)/\jt x=true/\a.all jt=true/\Q (.bl (if b then !F9 x a else F9 x a)) H
theorem nU:pR X (compareOp .In) (SK X.K false):=by
 intro a s c H x y v u Q I e b h;obtain⟨p,c,rfl,a,d,fs,q⟩:=h;cases b;rcases a with a|a
 obtain⟨b,r,c,h⟩:=I.list a;show SeqAt.in_listAt (Ft x) c.isList (λw hw=>kZ e d r fs w (by simpa using hw)) ⟨.bl _,H,I,rfl,?_⟩;rw[show b.toArray.any (Ft x)=b.any (Ft x) by simp,tD r fs];show q;obtain⟨b,r,c,h⟩:=I.tuple a;show SeqAt.in_tupleAt (Ft x) c (λw hw=>kZ e d r fs w (by simpa using hw)) ⟨.bl _,H,I,rfl,?_⟩;rw[show b.toArray.any (Ft x)=b.any (Ft x) by simp,tD r fs];show q
theorem p8:pR X (compareOp .NotIn) (SK X.K true):=by
 intro a s c H x y v u Q I e b h;obtain⟨p,xs,rfl,a,d,fs,q⟩:=h;cases b;rcases a with a|a
 obtain⟨b,r,c,h⟩:=I.list a;show SeqAt.notIn_listAt (Ft x) c.isList (λw hw=>kZ e d r fs w (by simpa using hw)) ⟨.bl _,H,I,rfl,?_⟩;rw[show b.toArray.any (Ft x)=b.any (Ft x) by simp,tD r fs];show q;obtain⟨b,r,c,h⟩:=I.tuple a;show SeqAt.notIn_tupleAt (Ft x) c (λw hw=>kZ e d r fs w (by simpa using hw)) ⟨.bl _,H,I,rfl,?_⟩;rw[show b.toArray.any (Ft x)=b.any (Ft x) by simp,tD r fs];show q
theorem BL:fz X (.builtin "len") (λb H Q=>∃p a,b=[.ref p]/\(bG X.K H p a∨dO X.K H p a)/\Q (.int a.length) H):=by
 intro c s q H b d Q I r h;obtain⟨p,a,rfl,b,q⟩:=h;obtain⟨u,rfl,h⟩:=vals1 r;cases h;have h:=uC;rcases b with b|b
 obtain⟨Q,d,c,h⟩:=I.list b;have p:=d.length;show Calls.call_len_list c.isList (by simp only[WU]<;>lia) ⟨.int a.length,H,I.tok _,⟨s.toks+1,by rw[WU,p]⟩,q⟩;obtain⟨Q,d,c,h⟩:=I.tuple b;have p:=d.length;show len_tuple c (by simp only[WU]<;>lia) ⟨.int a.length,H,I.tok _,⟨s.toks+1,by rw[WU,p]⟩,q⟩
theorem eo:fz X (.builtin "len") (λa H Q=>∃z,a=[.str z]/\z.length<=sizeLine/\Q (.int z.length) H):=by intro q s u H a t Q I r h;obtain⟨z,rfl,a,q⟩:=h;obtain⟨u,rfl,t,rfl⟩:=vals1 r;have a:=uC;show len_str (by lia) ⟨.int z.length,H,I.tok _,⟨_,rfl⟩,q⟩
theorem BO:fz X (.type "list") (λa H Q=>∃p f,a=[.ref p]/\(bG X.K H p f∨dO X.K H p f)/\∀l,H l=none->Q (.ref l) (upd H l (.lst f))):=by
 intro k s n H a l Q I r h;obtain⟨p,f,rfl,g,q⟩:=h;obtain⟨u,rfl,l⟩:=vals1 r;cases l
 have j:∀(c:ah ak),bW f c->f.length<=sizeLine->∀(a :aX)(d :Nat),(∀b l,s.heap.get? b=some l->a.get? b=some l)->
  a.get? s.heap.objs.size=some {cls:= .type "list",dict:=none,data:= .seq c.toArray d,slots:= #[]}->EP X k n Q (.ref s.heap.objs.size) {s with heap:=a}:=λc e h a d i H=>
  ⟨.ref s.heap.objs.size,_,I.laid (t' :=s.toks) i (Wu _) (show dw X.prog X.w _ a _ (.lst f)from⟨h,c,d,e,H⟩),rfl,q _ (I.dD.fresh (Wu _))⟩
 rcases g with g|g
 obtain⟨c,e,l,h⟩:=I.list g;have k:=e.length;obtain⟨o,Q,f,n,s⟩:=l.isList;show call_list_seq p (.inl rfl) Q f s (λa d i H=>j c e h a d i H) (by simp only[WU]<;>lia);obtain⟨c,e,l,h⟩:=I.tuple g;have k:=e.length;obtain⟨o,Q,f,n,s⟩:=l;show call_list_seq p (.inr rfl) Q f s (λa d i H=>j c e h a d i H) (by simp only[WU]<;>lia)
theorem w7:fz X (.type "tuple") (λc H Q=>∃p a,c=[.ref p]/\((bG X.K H p a/\∀l,H l=none->Q (.ref l) (upd H l (.tup a)))∨(dO X.K H p a/\Q (.ref p) H))):=by
 intro f s d H c l Q I r h;obtain⟨p,a,rfl,h⟩:=h;obtain⟨u,rfl,c⟩:=vals1 r;cases c;rcases h with⟨Q,q⟩|⟨Q,q⟩
 obtain⟨e,l,h,d⟩:=I.list Q;have c:=l.length;show call_tuple_list h.isList (λi f=> ?_) (by simp only[WU]<;>lia);have c:=I.kept (t' :=s.toks) f
 have f:=
  c.laid (t' :=s.toks) (λb o g=>Wv _ g) (Wu _) (show dw X.prog X.w _ _ _ (.tup a)from⟨d,e,l,IsTup.new _ _⟩)
 show⟨.ref i.objs.size,_,f,rfl,q _ (c.dD.fresh (Wu _))⟩;obtain⟨e,l,h,d⟩:=I.tuple Q;show call_tuple_same h ⟨.ref p,H,I,rfl,q⟩
def QL(K:ay)(T:aC)(x:V)(H:Hp):Prop:=match x with
 | .str _=>T= "str"
 | .int _=>T= "int"
 | .ref p=>(T= "list"/\∃a,bG K H p a)∨(T= "tuple"/\∃o,K.lookup p=some o/\o.cls= .type "tuple"/\o.dict=none)∨
    (T= "dict"/\((∃a,H p=some (.dK a))∨∃a,H p=some (.dT a)))∨(T= "set"/\∃S n,H p=some (.set S n))
 |_=>False
theorem Kx(I:Inv X c i H s)(r:RelV x v)(d:QL X.K T x H):
 s.TypeIs v T/\∀a,v= .ref a->∃ob,s.heap.get? a=some ob/\ob.dict=none:=by
 cases x with
 |str z=>obtain⟨t,rfl⟩:=r;cases(show T= "str" from d);show⟨abL s z t,λ_ e=>nomatch e⟩
 |int i=>obtain⟨t,rfl⟩:=r;cases(show T= "int" from d);show⟨typeIs_int s i t,λ_ e=>nomatch e⟩
 |ref p=>
  cases r;rcases d with⟨rfl,i,v⟩|⟨rfl,o,b,t,c⟩|⟨rfl,b⟩|⟨rfl,S,n,b⟩
  obtain⟨i,_,r,_⟩:=I.list v;show⟨r.isList.typeIs,λa e=> ?_⟩;cases e;obtain⟨o,n,e,v,c,_⟩:=r;show⟨o,e,c⟩;show⟨⟨o,I.ur p o b,t⟩,λa e=> ?_⟩;cases e;show⟨o,I.ur _ o b,c⟩
  have z:∃o,s.heap.get? p=some o/\o.ExactDict:=by
   rcases b with⟨c,b⟩|⟨c,b⟩
   obtain⟨_,_,_,_,o,_,_,e,c,_⟩:=I.dD p _ b;show⟨o,e,c⟩;obtain⟨_,_,_,_,o,_,_,e,c,_⟩:=I.dD p _ b;show⟨o,e,c⟩
  obtain⟨o,e,c⟩:=z;show⟨⟨o,e,c.1⟩,λa s=> ?_⟩;cases s;show⟨o,e,c.2.1⟩;obtain⟨o,_,_,_,e,c,_⟩:=I.dD p _ b;show⟨⟨o,e,c.1⟩,λa s=> ?_⟩;cases s;show⟨o,e,c.2.1⟩
 |_=>show False.elim d
def Rr(K:ay)(T:aC)(r:V->ah V->Hp->VK->Prop)(b:TE):TE:=λc H Q=>b c H λx a=>QL K T x a/\r x [] a Q
def UY(K:ay)(T:aC)(r:V->ah V->Hp->VK->Prop)(d:TE)(t:TA):TE:=λb H Q=>d b H λx a=>QL K T x a/\t b a λe c=>r x e c Q
variable{o i:bx}{g:ah bx}{h:TE}{t:TA}{b:Str}{c a:Pos}{T id:aC}{r:V->ah V->Hp->VK->Prop}
theorem Pw(p:PlainAttrs T)(u:Slot T b id)(n:typeOf (.builtin id)=pure (.type "method_descriptor"))(l:QK X id r)(m:PE X o h)
 (j:autoParam (attributeBase o b X.env (eval o X.env)=eval o X.env) cL._auto_6) (k:autoParam ((c.endLine==a.line)=true) cL._auto_6):PE X (.Call (.Attribute o b c) [] [] a) (Rr X.K T r h):=by
 intro d s f H Q I i;show wpAny_Call_method0_late j k (dz (m s f H _ I i) λw t⟨x,g,d,e,v,q⟩=> ?_);obtain⟨i,H⟩:=Kx d e v;show⟨T,id,p,u,n,i,H,Zo rfl (Zh (l t f g x [] w [] Q d e .nil q))⟩
theorem fB(A:PlainAttrs T)(E:Slot T b id)(z:typeOf (.builtin id)=pure (.type "method_descriptor"))(q:QK X id r)(u:PE X o h)(l:PA X (i::g) t)
 (m:autoParam (attributeBase o b X.env (eval o X.env)=eval o X.env) cL._auto_6)
 (n:autoParam (((backTo a (starEach (i::g) X.env)).all (λx=> !x.1)&&(backToKw a (keywordEach [] X.env)).all (λx=>x.1.isSome)
   &&decide ((i::g).length+([]:ah Keyword).length+(if([]:ah Keyword).isEmpty then 0 else 1)<30))=true) cL._auto_6)
 (p:autoParam ((c.endLine==a.line)=true) cL._auto_6) (y:autoParam (starEach (i::g) X.env=(false,eval i X.env)::starEach g X.env) cL._auto_6) (w:autoParam ((backTo a (starEach g X.env)).any (·.1)=false) cL._auto_6):
 PE X (.Call (.Attribute o b c) (i::g) [] a) (UY X.K T r h t):=by
 intro B s d H Q I f;show wpAny_Call_method_late m n p rfl (dz (u s d H _ I f) λv D⟨x,k,e,j,F,C⟩=> ?_);obtain⟨f,H⟩:=Kx e j F;show⟨T,id,A,E,z,f,H,?_⟩;have f:= @l a B D d k _ e C;rw[y]at f|-;show Zo (by change(false||(backTo a (starEach g X.env)).any (·.1))=false;rw[w]<;>rfl) (aau ?_);show dz f λn m⟨p,e,k,l,H⟩=>q m d e x p v n Q k j l H
end
end L2
namespace L2
open PySem PySem.Spec PyProof.Rows
def SM(X:Cx)(id:aC)(r:V->ah V->Hp->VK->Prop):Prop:=
 ∀⦃a:ah (ai×aV)⦄(s:aq) (d:St) (H:Hp) (x:V) (c:ah V) (v:ak) (b:ah ak) (Q:VK),Inv X a d H s->RelV x v->bW c b->r x c H Q->
  wpAny (model X.prog X.w) X.A (call (.builtin id) (v::b)) (EP X a d Q) X.xe s
theorem bW.one(h:bW [x] a):∃u,a=[u]/\RelV x u:=by
 cases h with
 |cons r t=>cases t;show⟨_,rfl,r⟩
theorem bW.zero:∀{a},bW [] a->a=[]
 |_,.nil=>rfl
theorem bW.dropLast(h:bW a r):bW a.dropLast r.dropLast:=by
 induction h with
 |nil=>show .nil
 |cons r t h=>
  cases t with
  |nil=>show .nil
  |cons q a =>show .cons r h
theorem F_{a:Type}(l:ah a):l.eraseIdx (l.length-1)=l.dropLast:=by
 induction l with
 |nil=>rfl
 |cons a r l=>
  cases r with
  |nil=>rfl
  |cons b r=>
   have e:(a::b::r).length-1=((b::r).length-1)+1:=rfl;rw[e,List.eraseIdx_cons_succ,l]
   all_goals rfl
section
variable{X:Cx}{pins:ah (ai×aV)}{c:St}{H:Hp}{s:aq}{l b:ai}{d a f:ah V}
theorem Inv.Nj{q its' :ah ak}{n:Nat}{f:Array ak->Array ak}{h :Nat}(I:Inv X pins c H s)(b:H l=some (.lst d))
 (e:s.heap.get? l=some {cls:= .type "list",data:= .seq q.toArray n}) (g:f q.toArray=its'.toArray) (i:bW a its') (j:a.length<=sizeLine):
 Inv X pins c (upd H l (.lst a)) {s with heap:=s.heap.update l (Obj.mapSeq f),toks:=h}:=by
 have q:=IsL.update e f;rw[g]at q;show I.write (x:=l) (e:=l) (by rw[b];show trivial) (.inl rfl) (λn u g h=>(Yu s.heap (Obj.mapSeq f) (Yt g)).trans h) ⟨_,q⟩ ?_;show⟨j,its',_,i,q⟩
theorem Inv.Tq(I:Inv X pins c H s)(b:bW a e)(d:a.length<=sizeLine):
 Inv X pins c (upd H s.heap.objs.size (.lst a)) {s with heap:=s.heap.push {cls:= .type "list",data:= .seq e.toArray},toks:=t'}:=
 I.laid (λ_ _ q=>Wv _ q) (Wu _) ⟨d,e,0,b,WH _ rfl⟩
theorem Inv.fresh(I:Inv X pins c H s):H s.heap.objs.size=none:=I.dD.fresh (Wu _)
theorem Inv.Ga(I:Inv X pins c H s)(b:H l=some (.lst d)):d.length<=sizeLine/\∃a n,bW d a/\d.length=a.length/\s.heap.get? l=some {cls:= .type "list",data:= .seq a.toArray n}:=by obtain⟨z,a,n,r,e⟩:=I.dD l _ b;show⟨z,a,n,r,r.length,e⟩
theorem Dt(h:n<=sizeLine):Builtin.List.listTooLong n=false:=by unfold Builtin.List.listTooLong;show WC (by lia)
end
section
variable{X:Cx}
def HD:V->ah V->Hp->VK->Prop:=λx b H Q=>∃l a y,x= .ref l/\b=[y]/\H l=some (.lst a)/\a.length<sizeLine/\Q .non (upd H l (.lst (a++[y])))
theorem dh:SM X "list.append" HD:=by
 intro a s u H x q v l Q I e b h;obtain⟨l,xs,y,rfl,rfl,a,H,q⟩:=h;cases e;obtain⟨u,rfl,h⟩:=b.one;obtain⟨z,b,n,r,H,e⟩:=I.Ga a;show aaM Xl ⟨_,e,rfl⟩ F.entry_list_append (F.args_list_append_2 _ _) (list_append l b.toArray n u (by rw[WU];lia)) ⟨e,?_⟩;show⟨.non,_,I.Nj (its' :=b++[u]) a e (by simp) (r.append (.cons h .nil)) ?_,rfl,q⟩;rw[WY,List.length_singleton]
 lia
def HF:V->ah V->Hp->VK->Prop:=λx d H Q=>∃l c a b,x= .ref l/\d=[.ref c]/\H l=some (.lst a)/\H c=some (.lst b)/\a.length+b.length<=sizeLine/\Q .non (upd H l (.lst (a++b)))
theorem jH:SM X "list.extend" HF:=by
 intro e s u H x d v g Q I c a h;obtain⟨l,b,xs,u,rfl,rfl,d,g,e,q⟩:=h;cases c;obtain⟨u,rfl,h⟩:=a.one;cases h;obtain⟨z,a,n,r,h,e⟩:=I.Ga d;obtain⟨u,c,i,j,h,f⟩:=I.Ga g;have h:a.toArray.size+c.toArray.size<=sizeLine:=by rw[WU,WU];lia
 have g:¬(!a.toArray.isEmpty&&Builtin.List.listTooLong (a.toArray.size+c.toArray.size))=true:=by rw[Dt h,aaN];show W3
 show aaM Yg ⟨_,e,rfl⟩ F.entry_list_extend (F.args_list_extend_2 _ _)
  (AutoSeq1.list_extend_list_list_0 l a.toArray n b c.toArray i g (by rw[WU];lia) (by lia)) ⟨e,f,?_⟩
 show⟨.non,_,I.Nj (its' :=a++c) d e (by simp) (r.append j) ?_,rfl,q⟩;rw[WY]
 lia
def Tt:V->ah V->Hp->VK->Prop:=λx b H Q=>∃l a y,x= .ref l/\b=[]/\H l=some (.lst a)/\a[a.length-1]? =some y/\Q y (upd H l (.lst a.dropLast))
theorem Px:SM X "list.pop" Tt:=by
 intro d s f H x e v b Q I c a h;obtain⟨l,e,y,rfl,rfl,b,d,q⟩:=h;cases c;have h:=a.zero;subst h;obtain⟨z,a,n,r,h,e⟩:=I.Ga b;obtain⟨u,c,f⟩:=r.get d;have d :a.toArray[a.toArray.size-1]? =some u:=by change a.toArray[a.length-1]? =some u;rw[<- abr,<- h];show c
 show aaM F.slot_list_pop ⟨_,e,rfl⟩ F.entry_list_pop (F.args_list_pop_1 _) (MeetsSeq.list_pop_last l a.toArray n u d (by rw[WU];lia)) ⟨e,?_⟩;show⟨y,_,I.Nj (its' :=a.dropLast) b e ?_ r.dropLast ?_,f,q⟩;change a.toArray.eraseIdxIfInBounds (a.toArray.size-1)=a.dropLast.toArray;rw[WU,List.eraseIdxIfInBounds_toArray,F_];rw[List.length_dropLast]
 lia
def Tv:R2:=λx y H Q=>∃l c a b,x= .ref l/\y= .ref c/\H l=some (.lst a)/\H c=some (.lst b)/\a.length+b.length<=sizeLine/\∀p,H p=none->Q (.ref p) (upd H p (.lst (a++b)))
theorem mY:pR X (binaryOp .Add) Tv:=by
 intro c s e H x y v u Q I a b h;obtain⟨l,e,xs,u,rfl,rfl,c,d,H,q⟩:=h;cases a;cases b;obtain⟨z,a,n,r,b,e⟩:=I.Ga c;obtain⟨u,b,Q,h,H,c⟩:=I.Ga d;show PySem.P.add_list e c ?_ (by rw[WU,WU];lia);have c:a.toArray++b.toArray=(a++b).toArray:=by simp
 rw[c];show⟨.ref _,_,I.Tq (t' :=s.toks) (r.append h) (by rw[WY];lia),rfl,q _ I.fresh⟩
end
section
variable{a:aS}{w:aU}{A:bC}{E:ak->aq->Prop}{s:aq}
end
section
variable{X:Cx}
end
end L2
namespace L2
open PySem PySem.Spec PyProof.Rows
theorem bW.ints:∀{a}{us},bW (a.map V.int) us->IntsAre us a
 |[],us,h=>by rw[Z9]at h;cases h;show IntsAre.nil
 |n::a,us,h=>by
  rw[WM]at h;cases h with
  |cons r t=>obtain⟨k,rfl⟩:=r;show IntsAre.cons n k (bW.ints t)
theorem BP(h:IntsAre a n):bW (n.map V.int) a:=by
 induction h with
 |nil=>show Paired.nil
 |cons n t _ h=>show Paired.cons (show RelV (V.int n) (Value.int n t)from⟨t,rfl⟩) h
theorem bW.Tw:∀{bs:ah Bool}{us:ah ak},bW (bs.map V.bl) us->us=bs.map Value.bool
 |[],us,h=>by rw[Z9]at h;cases h;rfl
 |b::bs,us,h=>by
  rw[WM]at h;cases h with
  |cons r t=>cases r;rw[bW.Tw t,WM]
theorem bW.BQ(r:bW [V.ref a] b):b=[Value.ref a]:=by
 cases r with
 |cons r t=>cases t;cases r;rfl
section
variable{c:aS}{w:aU}{A:bC}{E:ak->aq->Prop}{s:aq}{l:ai}{a:ah ak}{b:ah Int}{Q:ak->aq->Prop}
theorem Nk(k:A.handled=none)(h:s.heap.IsList l a.toArray)(g:IntsAre a b)
 (j:∀d tk e,(∀f o,s.heap.get? f=some o->d.get? f=some o)->Q (.int b.sum e) {s with heap:=d,toks:=tk}):wpAny (model c w) A (call (.builtin "sum") [.ref l]) Q E s:=by
 obtain⟨o,f⟩:=g.allInts.items;have i:numsOf (intItems o).toList=b:=by rw[<- f];show g.numsOf
 rw[nums_intItems]at i;rw[f]at h;show sum_intListG k h λd tk e f=> ?_;have:=j d tk e f;rw[preSum_eq,W2 (by simp),i];show this
end
section
variable{X:Cx}
def Rt(K:ay):ah V->Hp->VK->Prop:=λc H Q=>∃(a:ai)(b:ah Int),c=[V.ref a]/\bG K H a (b.map V.int)/\Q (.int b.sum) H
theorem Py(a:X.calm=true):fz X (.builtin "sum") (Rt X.K):=by intro b s q H d c Q I r h;obtain⟨b,d,rfl,c,q⟩:=h;obtain⟨h,d,b,_⟩:=I.list c;rw[bW.BQ r];show Nk (I.ok.hd a) b.isList d.ints λc tk r h=>⟨.int _,H,I.kept h,⟨_,rfl⟩,q⟩
theorem Nm(h:n<64):n<=sizeLine:=by rw[Wx];lia
end
section
variable{X:Cx}
def Pz(K:ay):V->ah V->Hp->VK->Prop:=λx m H Q=>∃(b:ai)(a:ah V)(y:V)(j:Nat)(z:V),x=V.ref b/\m=[y]/\bG K H b a/\jt y=true/\a.all jt=true/\a[j]? =some z/\J1 z y=true/\
 (∀(m:Nat)(b :V),m<j->a[m]? =some b->J1 b y=false)/\Q (.int (j:Nat)) H
theorem HG{a:ah V}(f:a.all jt=true){j:Nat}{z:V}(h:a[j]? =some z):jt z=true:=X6.mp f z (Wq h)
theorem Kz:QK X "list.index" (Pz X.K):=by
 intro xj xq xC H xA xs xx xr U I L M p;obtain⟨l,f,T,j,xB,rfl,rfl,y,o,d,k,C,x,E⟩:=p;cases L;cases M with
 |cons N G=>
  rename_i S xu;cases G;obtain⟨a,b,⟨⟨cls,n,V,O⟩,D,i,g,W,h⟩,Y⟩:=I.list y;simp only at g h;subst g h;obtain⟨P,z,J⟩:=b.get k;obtain⟨s,r⟩:=Wo.mp z;have xh:=b.length;have q:j<a.toArray.size:=by simpa using s
  have xg:=Wx
  show aaM F.slot_list_index ⟨_,i,rfl⟩ F.entry_list_index (F.args_list_index_2 _ _)
   (SeqAt.list_indexAt l a.toArray D n O S (Ft T) j q (by lia) ?_ ?_) ⟨i,λQ A =>kZ N o b d Q (by simpa using A),?_⟩
  have c:a.toArray[j]=P:=by simpa using r
  rw[c,BK J (HG d k)];show C;intro m t v;have Z:m<a.length:=by simpa using t
  have w:m<f.length:=by lia
  have e :f[m]? =some f[m]:=Wr w;obtain⟨R,B,K⟩:=b.get e;obtain⟨_,u⟩:=Wo.mp B;have c:a.toArray[m]=R:=by simpa using u
  rw[c,BK K (HG d e)];show x m _ v e;show⟨.int (j:Nat),H,I.tok _,⟨_,rfl⟩,E⟩
end
section
variable{X:Cx}
end
theorem Du(b:s.heap.IsList l e)
 (h:∀a:aq,a={s with heap:=s.heap.push {cls:= .type "list_iterator",data:= .fields #[.ref l,.int 0 0]}}->
   (a.heap.IsListIter s.heap.objs.size l 0/\a.heap.IsList l e)->l≠s.heap.objs.size->Q (.ref s.heap.objs.size) a):wpAny (model c w) A (pyIter (.ref l)) Q E s:=by
 have a:l<s.heap.objs.size:=by obtain⟨_,e,_⟩:=b;show WR e
 show aaV b (h _ rfl ⟨⟨_,WH _ rfl,rfl,rfl⟩,b.push _⟩ (W6 a))
theorem rX{bs:ah Bool}(e:b=bs.map Value.bool):
 TruthOf a w A (λi v=>b.toArray[i]? =some v) (λi=>bs.getD i false):=λi v s Q E d c=>by
 have a :b[i]? =some v:=by simpa using d
 rw[e,Ws]at a;obtain⟨b,v,rfl⟩:=abh.mp a;have a:bs.getD i false=b:=by rw[Yh,v]<;>rfl
 have v :Q (bs.getD i false) s:=c;rw[a]at v;show Yk v
theorem any_range:∀bs:ah Bool,(List.range bs.length).any (λi=>bs.getD i false)=bs.any id
 |[]=>rfl
 |b::bs=>by
  rw[WG,abi,Yn,Zq,Yn,<- any_range bs]
  all_goals rfl
theorem all_range:∀bs:ah Bool,(List.range bs.length).all (λi=>bs.getD i false)=bs.all id
 |[]=>rfl
 |b::bs=>by
  rw[WG,abi,Zd,List.all_map,Zd,<- all_range bs]
  all_goals rfl
section
variable{X:Cx}
def Ru(K:ay):ah V->Hp->VK->Prop:=λb H Q=>∃(a:ai)(bs:ah Bool),b=[V.ref a]/\bG K H a (bs.map V.bl)/\Q (.bl (bs.any id)) H
def Rv(K:ay):ah V->Hp->VK->Prop:=λb H Q=>∃(a:ai)(bs:ah Bool),b=[V.ref a]/\bG K H a (bs.map V.bl)/\Q (.bl (bs.all id)) H
theorem PB(b:X.calm=true):fz X (.builtin "any") (Ru X.K):=by
 intro d s o H e a Q I r h;obtain⟨a,bs,rfl,d,q⟩:=h;obtain⟨f,e,h,_⟩:=I.list d;rw[bW.BQ r];have c:=e.Tw;show call_any_walk (Du h.isList λo d st e=> ?_);subst d;show⟨_,_,_,_,_,_,_,rfl,Walks.list (A:=X.A.in1) (I.ok.hd b) _ a e f.toArray,st,rX c,λd tk h=> ?_⟩;show⟨.bl _,H,I.kept λd o b=>h d o (λa=> ?_) (Wv _ b),?_,q⟩;rcases WB.mp a with d|a
 show absurd (d▸WR b) (X9 _);cases a;change Value.bool _=Value.bool _;rw[<- any_range,c,WU,Wl]
theorem Gb(b:X.calm=true):fz X (.builtin "all") (Rv X.K):=by
 intro d s o H e a Q I r h;obtain⟨a,bs,rfl,d,q⟩:=h;obtain⟨f,e,h,_⟩:=I.list d;rw[bW.BQ r];have c:=e.Tw;show call_all_walk (Du h.isList λo d st e=> ?_);subst d;show⟨_,_,_,_,_,_,_,rfl,Walks.list (A:=X.A.in1) (I.ok.hd b) _ a e f.toArray,st,rX c,λd tk h=> ?_⟩;show⟨.bl _,H,I.kept λd o b=>h d o (λa=> ?_) (Wv _ b),?_,q⟩;rcases WB.mp a with d|a
 show absurd (d▸WR b) (X9 _);cases a;change Value.bool _=Value.bool _;rw[<- all_range,c,WU,Wl]
end
mutual
inductive Dp(K:ay)(H:Hp):V->PyData->Prop
 |non:Dp K H .non .none
 |bl (d:Bool):Dp K H (.bl d) (.bool d)
 |int (i:Int):Dp K H (.int i) (.int i)
 |str (x:Str):Dp K H (.str x) (.str x)
 |lst {a:ai} {c:ah V} {b:ah PyData}:bG K H a c->uK K H c b->Dp K H (.ref a) (.list b)
 |tup {a:ai} {c:ah V} {b:ah PyData}:dO K H a c->uK K H c b->Dp K H (.ref a) (.tuple b)
inductive uK(K:ay)(H:Hp):ah V->ah PyData->Prop
 |nil:uK K H [] []
 |cons {v:V} {b:ah V} {d:PyData} {a:ah PyData}:Dp K H v d->uK K H b a->uK K H (v::b) (d::a)
end
section
variable{X:Cx}{a:ah (ai×aV)}{c:St}{H:Hp}{s:aq}
mutual
theorem Dp.reads(I:Inv X a c H s):∀e v u,Dp X.K H v e->RelV v u->∃d,Reads s.heap u e d
 | .none,_,_,h,r=>by cases h;cases r;show⟨_,Reads.none⟩
 | .bool b,_,_,h,r=>by cases h;cases r;show⟨_,Reads.bool b⟩
 | .int i,_,_,h,r=>by cases h;obtain⟨t,rfl⟩:=r;show⟨_,Reads.int i t⟩
 | .str x,_,_,h,r=>by cases h;obtain⟨t,rfl⟩:=r;show⟨_,Reads.str x t⟩
 | .list ds,_,_,h,r=>by
   cases h with
   |lst l e=>cases r;obtain⟨m,n,⟨o,t,j,f,_,g⟩,_⟩:=I.list l;obtain⟨d,k⟩:=Dp.readsAll I ds _ m e n;show⟨_,Reads.list j f g k⟩
 | .tuple ds,_,_,h,r=>by
   cases h with
   |tup l e=>cases r;obtain⟨m,n,⟨o,j,f,t,g⟩,_⟩:=I.tuple l;obtain⟨d,k⟩:=Dp.readsAll I ds _ m e n;show⟨_,Reads.tuple j f g k⟩
 | .dict _,_,_,h,_=>by cases h
theorem Dp.readsAll(I:Inv X a c H s):∀b r h,uK X.K H r b->bW r h->∃e,ReadsAll s.heap h b e
 |[],_,_,h,r=>by cases h;cases r;show⟨_,ReadsAll.nil⟩
 |d::b,_,_,h,r=>by
  cases h with
  |cons h f=>
   cases r with
   |cons g i=>obtain⟨e,r⟩:=Dp.reads I d _ _ h g;obtain⟨bs,h⟩:=Dp.readsAll I b _ _ f i;show⟨_,ReadsAll.cons r h⟩
end
end
section
variable{X:Cx}
def Rw(K:ay):R2:=λx y H Q=>∃d e,Dp K H x d/\Dp K H y e/\SeqAt.shaped d=true/\SeqAt.shaped e=true/\Q (.bl (PyData.eqv d e)) H
theorem PD(c:X.A.units+64<cLine):pR X (compareOp .Eq) (Rw X.K):=by intro a s b H x y v u Q I f g h;obtain⟨d,e,a,b,i,j,q⟩:=h;obtain⟨Q,h⟩:=Dp.reads I d x v a f;obtain⟨bs,a⟩:=Dp.reads I e y u b g;show SeqAt.compareEq_shaped h a i j c ⟨.bl _,H,I,rfl,q⟩
end
end L2
namespace L2
open PySem PySem.Spec PyProof.Rows
abbrev KC(h:aX)(c:ai)(v:az ak):Prop:=h.IsCell c v
def Tz(b a:Scope):Scope:=
 {b with names:=b.names.map λ(n,k)=>if(k== .free&&a.kind== .function&&a.names.lookup n==some .cell)then(n,.cell)else(n,k)}
noncomputable def dB (cells:ah (Str×ai)):ah (Str×NameKind)->ah (Str×ai)->ah (Str×ai)
 |[],acc=>acc
 |(n,k)::r,acc=>if k== .free then dB cells r ((n,(cells.lookup n).getD 0)::acc)else dB cells r acc
theorem p9 a f
 (d:∀n k c,f (n,k) c=if k== .free then(do let b <- cellOf a n;pure (.yield ((n,b)::c)))else pure (.yield c)):
 ∀b acc,(∀y∈b,y.2= .free->∃c,a.cells.lookup y.1=some c)->forIn b acc f=pure (dB a.cells b acc)
 |[],acc,_=>by rw[abu];rfl
 |(n,k)::r,acc,h=>by
  rw[List.forIn_cons,d];have e:=λacc=>p9 a f d r acc λy b=>h y (Wz _ b);unfold dB;by_cases b:(k==NameKind.free)=true;rw[Wt b,Wt b];obtain⟨c,f⟩:=h (n,k) WD (by simpa using b);have d:cellOf a n=pure c:=by unfold cellOf;rw[f]
  rw[d];have d:(a.cells.lookup n).getD 0=c:=by rw[f];rfl
  rw[d];show e _;rw[Wn b,Wn b];show e _
theorem Gd(h:∀y∈b.names,y.2= .free->∃c,a.cells.lookup y.1=some c):closureFor b a=pure (dB a.cells b.names []):=by simp only[closureFor];rw[p9 a _ (λn k c=>rfl) b.names [] h];rfl
theorem pD{h:Type}:∀{l:ah (Str×h)}{n:Str}{c:h},(n,c)∈l->∃a,l.lookup n=some a
 |(k,v)::r,n,c,h=>by
  rw[YZ];cases a:n==k with
  |true=>show⟨_,rfl⟩
  |false=>
   rcases WB.mp h with e|h
   cases e;simp at a;show pD h
theorem kr:∀{names}{acc}{n}{c},(n,c)∈dB cells names acc->(n,c)∈acc∨((n,.free)∈names/\c=(cells.lookup n).getD 0)
 |[],_,_,_,h=> .inl h
 |(m,k)::r,acc,n,c,h=>by
  unfold dB at h;split at h;rename_i d;have d:k= .free:=by simpa using d
  rcases kr h with h|⟨a,b⟩
  rcases WB.mp h with e|h
  cases e;show .inr ⟨d▸WD,rfl⟩;show .inl h;show .inr ⟨Wz _ a,b⟩;rcases kr h with h|⟨a,b⟩
  show .inl h;show .inr ⟨Wz _ a,b⟩
theorem mZ:∀{h}{acc}{p},p∈acc->p∈dB a h acc
 |[],_,_,h=>h
 |(m,k)::r,acc,p,h=>by unfold dB;split;show mZ (Wz _ h);show mZ h
theorem m5:∀{names}{acc}{n},(n,.free)∈names->(n,(cells.lookup n).getD 0)∈dB cells names acc
 |(m,k)::r,acc,n,h=>by
  unfold dB;rcases WB.mp h with e|h
  cases e;show mZ WD;split;show m5 h;show m5 h
theorem k6:∀{names}{h}{acc}{x}{c},(x,c)∈cellsFrom h.objs.size names acc->
 (x,c)∈acc∨((x,.cell)∈names/\h.objs.size<=c/\KC (pushCells h names) c none)
 |[],_,_,_,_,h=> .inl h
 |(n,k)::r,h,acc,x,c,a=>by
  unfold cellsFrom at a;unfold pushCells;split at a;rename_i b;rw[Wt b];have b:k= .cell:=by simpa using b
  rw[<- XR h {cls:= .type "cell",data:= .cell none}]at a;rcases k6 a with a|⟨e,d,f⟩
  rcases WB.mp a with g|a
  cases g;show .inr ⟨b▸WD,Wu _,_,aay r _ _ _ (WH _ rfl),rfl⟩;show .inl a;rw[XR]at d;show .inr ⟨Wz _ e,Z_ d,f⟩;rename_i b;rw[Wn b];rcases k6 a with a|⟨e,d,f⟩
  show .inl a;show .inr ⟨Wz _ e,d,f⟩
theorem nV:∀{names}{n}{acc}{p},p∈acc->p∈cellsFrom n names acc
 |[],_,_,_,h=>h
 |(m,k)::r,n,acc,p,h=>by unfold cellsFrom;split;show nV (Wz _ h);show nV h
theorem qZ:∀{names}{n}{acc}{x},(x,.cell)∈names->∃c,(x,c)∈cellsFrom n names acc
 |(m,k)::r,n,acc,x,h=>by
  unfold cellsFrom;rcases WB.mp h with e|h
  cases e;show⟨n,nV WD⟩;split;show qZ h;show qZ h
theorem q1:∀{names:ah (Str×NameKind)}{h:aX}{acc:ah (Str×ai)}{x y:Str}{c:ai},(∀p∈acc,p.2<h.objs.size)->(∀x y c,(x,c)∈acc->(y,c)∈acc->x=y)->
 (x,c)∈cellsFrom h.objs.size names acc->(y,c)∈cellsFrom h.objs.size names acc->x=y
 |[],_,_,_,_,_,_,f,b,a=>f _ _ _ b a
 |(n,m)::r,h,acc,x,y,c,g,f,b,a=>by
  unfold cellsFrom at b a;split at b;rename_i i;rw[Wt i]at a;rw[<- XR h {cls:= .type "cell",data:= .cell none}]at b a;show q1 (h:=h.push _) (λp j=> ?_) (λx y c d e=> ?_) b a;rw[XR];rcases WB.mp j with rfl|j
  show aao _;show aac (g p j);rcases WB.mp d with k|d<;>rcases WB.mp e with l |e
  cases k;cases l;rfl;cases k;show absurd (g _ e) (X9 _);cases l;show absurd (g _ d) (X9 _);show f _ _ _ d e;rename_i i;rw[Wn i]at a;show q1 g f b a
theorem Dv{code:ak}
 (h:Q (newEnv a s.heap.objs.size globals (cellsFrom (s.heap.objs.size+1) a.names b) f e code (some c) d)
   {s with heap:=pushCells (s.heap.push {cls:= .type "dict",data:= .dict #[]}) a.names}):
 wpAny M A (newFunctionEnv a globals b [] f e code (some c) d) Q E s:=by
 simp only[newFunctionEnv,abM,Za];show Wm (wpAny_alloc ?_);show Wm (wpAny_layCells _ (λn k c=>rfl) a.names b _ _ ?_);rw[show({s with heap:=s.heap.push {cls:= .type "dict",data:= .dict #[]}}:aq).heap.objs.size=s.heap.objs.size+1 from XR ..];rw[abu];show Wm (Ww (Ww h))
theorem m6{b:Scope}:∀{names:ah (Str×NameKind)}{x:Str}{k:NameKind},
 (names.map λ(n,k)=>if(k==NameKind.free&&b.kind== .function&&b.names.lookup n==some .cell)then(n,NameKind.cell)else(n,k)).lookup x=some k->
 ∃a,names.lookup x=some a/\(k=a∨(a = .free/\k= .cell))
 |[],_,_,h=>by simp at h
 |(n,d)::r,x,k,h=>by
  have e:= @m6 b r x k;have a :List.lookup x ((if(d==NameKind.free&&b.kind== .function&&b.names.lookup n==some .cell)=true then(n,NameKind.cell)else(n,d))::(r.map _))=some k:=h;cases c:x==n with
  |true=>simp only[YZ,c];by_cases k:(d==NameKind.free&&b.kind== .function&&b.names.lookup n==some .cell)=true;rw[Wt k]at a;simp only[YZ,c]at a;cases a;simp only[WV,XD]at k;show⟨d,rfl,.inr ⟨k.1.1,rfl⟩⟩;rw[Wn k]at a;simp only[YZ,c]at a;cases a;show⟨_,rfl,.inl rfl⟩
  |false=>simp only[YZ,c];by_cases k:(d==NameKind.free&&b.kind== .function&&b.names.lookup n==some .cell)=true;rw[Wt k]at a;simp only[YZ,c]at a;show e a;rw[Wn k]at a;simp only[YZ,c]at a;show e a
structure Dy(N:ah Str)(sc scope:Scope)(own:ah (Str×Nat)):Prop where
 kind:scope.kind= .function
 uniq:∀y∈scope.names,scope.names.lookup y.1=some y.2
 ix:∀p∈own,N[p.2]? =some p.1
 free:∀y∈scope.names,y.2= .free->sc.names.lookup y.1=some .cell∨sc.names.lookup y.1=some .free
 own:∀y∈scope.names,y.2= .local∨y.2= .cell->y.1∈own.map (·.1)∨y.1∉N
def d9(a:St):ah Nat->St
 |[]=>a
 |v::b=>(d9 a b).set v none
theorem m7 b:∀a,(d9 b a).length=b.length
 |[]=>rfl
 |v::a=>by unfold d9;rw[XM,m7 b a]
theorem q3:∀{a},(d9 c a)[i]? =some (some x)->c[i]? =some (some x)/\i∉a
 |[],h=>⟨h,by simp⟩
 |v::a,h=>by unfold d9 at h;by_cases b:v=i;subst b;by_cases i:v<(d9 c a).length;rw[Xe i]at h;cases h;rw[Xh (by simpa using i)]at h;cases h;rw[Xn b]at h;obtain⟨i,a⟩:=q3 h;show⟨i,by simp only[WB,not_or];show⟨λe=>b e.symm,a⟩⟩
abbrev Cx.BR(X:Cx)(s:aq)(H:Hp)(c:Scope)(a:Env)(b:ah ai):Cx:={X with s8:=s,MX:=H,env:=a,outer:=X.stack,ex:=b,fn:=λx=>c.names.lookup x==some .cell,pn:=[],xe:=λ_ _=>False}
section
variable{X:Cx}{pins:ah (ai×aV)}{a:St}{H:Hp}{s:aq}
theorem Dz(I:Inv X pins a H s)(ok:Dy X.N X.env.scope b r)(L:X.N.Nodup)(u:∀d∈n,uy X pins H d/\d<s.heap.objs.size):
 Inv (X.BR s H b (compEnvC b (cellsFrom (s.heap.objs.size+1) b.names (dB X.env.cells b.names [])) s.heap.objs.size X.env) n) [] (d9 a (r.map (·.2))) H {s with heap:=pushCells (s.heap.push {cls:= .type "dict",data:= .dict #[]}) b.names}:=by
 have r:∀y∈b.names,y.2= .free->∃c,X.env.cells.lookup y.1=some c:=λy l e=>by
  rcases ok.free y l e with k|k
  show I.ok.has _ (.inl k);show I.ok.has _ (.inr k)
 generalize m:compEnvC b (cellsFrom (s.heap.objs.size+1) b.names (dB X.env.cells b.names [])) s.heap.objs.size X.env=g;have E:∀d x,s.heap.get? d=some x->(pushCells (s.heap.push {cls:= .type "dict",data:= .dict #[]}) b.names).get? d=some x:=λd x e=>aay _ _ _ _ (Wv _ e);have C:g.locals=s.heap.objs.size:=by rw[<- m];rfl
 have q:g.cells=cellsFrom (s.heap.objs.size+1) b.names (dB X.env.cells b.names []):=by rw[<- m];rfl
 have J:g.scope=Tz b X.env.scope:=by rw[<- m];rfl
 rw[<- XR s.heap {cls:= .type "dict",data:= .dict #[]}]at q
 have p:∀{y c},(y,c)∈dB X.env.cells b.names []->X.env.cells.lookup y=some c/\c<s.heap.objs.size:=λ{y c} i=>by
  rcases kr i with i|⟨f,rfl⟩
  cases i;obtain⟨c,h⟩:=r _ f rfl;rw[h];obtain⟨F,z⟩:=I.cell _ _ h;show⟨rfl,z.lt⟩
 have K:∀{y c},g.cells.lookup y=some c->(X.env.cells.lookup y=some c/\c<s.heap.objs.size)∨(s.heap.objs.size+1<=c/\KC (pushCells (s.heap.push {cls:= .type "dict",data:= .dict #[]}) b.names) c none):=λ{y c} e=>by
  rw[q]at e;rcases k6 (Xm e)with i|⟨_,j,h⟩
  show .inl (p i);rw[XR]at j;show .inr ⟨j,h⟩
 have look:∀{y},b.names.lookup y=some .free->∃c,g.cells.lookup y=some c/\X.env.cells.lookup y=some c:=λ{y} D=>by
  have l:(y,NameKind.free)∈b.names:=Xm D;obtain⟨B,h⟩:=pD (nV (names:=b.names) (n:=(s.heap.push {cls:= .type "dict",data:= .dict #[]}).objs.size) (m5 (cells:=X.env.cells) (acc:=[]) l));rw[<- q]at h;show⟨B,h,?_⟩;rw[q]at h;rcases k6 (Xm h)with i|⟨f,_,_⟩
  show(p i).1;have:=ok.uniq _ f;rw[D]at this;cases this
 have M:(X.BR s H b g n).Ok:=by
  show⟨I.ok.mod,by change g.scope.kind=_;rw[J];show ok.kind,by change g.globals=_;rw[<- m];show I.ok.glob,by change g.builtins=_;rw[<- m];show I.ok.blt,by change s.heap.objs.size<=g.locals;rw[C];show Wu _,
   λy z c m n=> ?_,λy l=> ?_,λy c z e=> ?_,I.ok.hd,I.ok.frames,.inl rfl,λd o=>⟨?_,λy c e z=> ?_⟩,I.bs,Xi I.ok.MY I.sz,λd x e o=> ?_,λd o z=> ?_,I.stack,I.s9⟩
  have m:=m;have n:=n;rw[q]at m n;show q1 (λt v=> ?_) (λy z c r d=>I.ok.inj y z c (p r).1 (p d).1) (Xm m) (Xm n);rw[XR];show aac (p (y:=t.1) (c:=t.2) v).2
  have w:∀k,g.kindOf y=some k->(k= .cell∨k= .free)->∃c,g.cells.lookup y=some c:=λk r G =>by
   unfold Env.kindOf at r;rw[J]at r;obtain⟨p,e,A⟩:=m6 r
   have:p = .cell∨p = .free:=by
    rcases A with rfl|⟨rfl,_⟩
    show G;show .inr rfl
   rcases this with rfl|rfl
   obtain⟨c,i⟩:=qZ (n:=(s.heap.push {cls:= .type "dict",data:= .dict #[]}).objs.size) (acc:=dB X.env.cells b.names []) (Xm e);obtain⟨B,h⟩:=pD i;show⟨B,by rw[q];show h⟩;obtain⟨c,f,_⟩:=look e;show⟨c,f⟩
  rcases l with l|l
  show w _ l (.inl rfl);show w _ l (.inr rfl);have z:=z;have z:b.names.lookup y=some .cell:=by simpa using z
  have e:=e;rw[q]at e;rcases k6 (Xm e)with i|⟨_,j,_⟩
  rcases kr i with i|⟨f,_⟩
  cases i;have q:=ok.uniq _ f;rw[z]at q;cases q;rw[XR]at j;show Z_ j;rw[C];show W6 (u d o).2;have e:=e;rcases K e with⟨f,_⟩|⟨f,_⟩
  show(u d o).1.2.2.2.2.1 y c f z;have j:s.heap.objs.size+1<=d:=by rw[<- z];show f
  show absurd (W4 (u d o).2 (Z_ j)) (X9 _);rcases(u d o).1.2.2.2.1 with z|z
  show I.ok.MZ d x e z;show absurd (W4 (WR e) (Xi I.ok.MY z)) (X9 _);rcases WB.mp (I.By d z)with z|z
  show(u d o).1.2.1 z;show(u d o).1.2.2.1 z
 show⟨M,rfl,I.bare,Un.kept E,⟨λ_=>none,?_,λu y l m n i=> ?_⟩,λy c e=> ?_,?_,λy c e=> ?_,λt v=> ?_,I.dD.kept E,by rw[m7];show I.len⟩;rw[C];show Heap.Ns.keeps (Heap.Ns.new ..) λd x e=>aay _ _ _ _ e;obtain⟨n,o⟩:=q3 n
 have d:b.names.lookup y=some .free/\(g.kindOf y=some .cell∨g.kindOf y=some .free):=by
  have w:∀k,g.scope.names.lookup y=some k->k= .local∨k= .cell∨k= .free->b.names.lookup y=some .free/\(g.kindOf y=some .cell∨g.kindOf y=some .free):=λk r G =>by
   have b:=r;rw[J]at r;obtain⟨p,e,A⟩:=m6 r
   have g:¬(p = .local∨p = .cell):=λr=>by
    rcases ok.own _ (Xm e) r with h |h
    obtain⟨t,v,r⟩:=Wy.mp h;have i:=ok.ix t v;have:=r;rw[this]at i;show o (Wy.mpr ⟨t,v,uv L i m⟩);show h (Wq m)
   rcases A with rfl|⟨rfl,rfl⟩
   rcases G with rfl|rfl|rfl
   show absurd (.inl rfl) g;show absurd (.inr rfl) g;show⟨e,.inr b⟩;show⟨e,.inl b⟩
  have i:=i;rcases i with i|i|i
  show w _ i (.inl rfl);show w _ i (.inr (.inl rfl));show w _ i (.inr (.inr rfl))
 obtain⟨b,r,D⟩:=I.loc;have r:QF X.env.scope y:=(ok.free _ (Xm d.1) rfl).elim (λk=> .inr (.inl k)) (λk=> .inr (.inr k));obtain⟨F,A,q⟩:=D u y l m n r;show⟨F,A,.inr ⟨d.2,?_⟩⟩;obtain⟨c,f,j⟩:=look d.1;rcases q with⟨k,_⟩|⟨_,B,h,z⟩
 have k:X.env.scope.names.lookup y=some .local:=k;rcases ok.free _ (Xm d.1) rfl with p |p <;>rw[show X.env.scope.names.lookup y=_ from p]at k<;>cases k
 rw[j]at h;cases h;show⟨c,f,z.keeps E⟩;have e:=e;rcases K e with⟨f,_⟩|⟨_,z⟩
 obtain⟨F,z⟩:=I.cell y c f;show⟨F,z.keeps E⟩;show⟨_,z⟩;rw[C];show I.dD.fresh (Wu _);have e:=e;rcases K e with⟨f,_⟩|⟨f,_⟩
 show I.ko y c f;show I.dD.fresh (Z_ f);show absurd (show t∈([]:ah (ai×aV))++[]from v) (by simp)
theorem PF(I:Inv X pins a H s)(b:H D=some (.lst d))(f:d.length<sizeLine)(r:RelV y v)
 (h:∀c,Inv X pins a (upd H D (.lst (d++[y]))) c->Q .none c):wpAny (model X.prog X.w) X.A (call (.builtin "list.append") [.ref D,v]) Q E s:=by
 obtain⟨d,g,n,c,e⟩:=I.dD D _ b;have d:=c.length;show append_at (hsz:=by rw[WU];lia) e λQ i D => ?_;show h {s with heap:=Q} (I.write (t' :=s.toks) (by rw[b];trivial) (.inl rfl) (λd u e q=>(i.2 d e).trans q) ⟨_,D⟩ ⟨by rw[WY];show f,g++[v],n+1,c.append (.cons r .nil),?_⟩);rw[D];simp
def Rx(X:Cx)(b:ah bx)(t:TT):Prop:=
 ∀⦃pins:ah (ai×aV)⦄(s:aq) (a:St) (H:Hp) (Q:Bool->Hp->Prop),Inv X pins a H s->t a H Q->
  wpAny (model X.prog X.w) X.A (forIn b true λc r=>if r=true then do let ok <- isTrue c X.env (eval c X.env);pure (ForInStep.yield ok)else pure (ForInStep.yield r)) (TP X pins a Q) X.xe s
def I8:TT:=λ_ H Q=>Q true H
theorem fU:Rx X [] I8:=λ_ _ _ H _ I h=>wpAny_tests_nil ⟨H,I,h⟩
theorem p_{t:TT}(h:PT X c t):Rx X [c] t:=λpins s a H Q I hw=>wpAny_tests_one (h s a H Q I hw)
end
theorem I9{t:Sem d}(h:wpAny M A t Q (λ_ _=>False) s)(c:∀a s,Q a s->b a s):wpAny M A t b E s:=Yp h c λ_ _ z=>False.elim z
theorem BU{a:aS}{w:aU}{A:bC}{R:Result->aq->Prop}{s:aq}{i h iter:bx}{j:ah bx}{t:Scope}{q:Pos}{d acc:ak}{b:Env}(I:Nat->aq->Prop)
 (u:∀n s,I n s->wpAny (model a w) A (pyNext d) (λr f=>match r with
   |none=>R (.ok .next) f
   |some v=>wpAny (model a w) A (letOwnedTupleGo h d v) (λ_ k =>wpAny (model a w) A (assign h b v) (λ_ l=>
     wpAny (model a w) A (forIn j true λc r=>if r=true then do let ok <- isTrue c b (eval c b);pure (ForInStep.yield ok)else pure (ForInStep.yield r)) (λok g=>
      if ok=true then wpAny (model a w) A (eval i b) (λx o=>wpAny (model a w) A (call (.builtin "list.append") [acc,x]) (λ_ p=>∃m,m<n/\I m p) (notedBy (model a w) A b λe c =>R (.error e) c) o) (notedBy (model a w) A b λe c =>R (.error e) c) g
      else∃m,m<n/\I m g) (notedBy (model a w) A b λe c =>R (.error e) c) l) (notedBy (model a w) A b λe c =>R (.error e) c) k) (notedBy (model a w) A b λe c =>R (.error e) c) f) (notedBy (model a w) A b λe c =>R (.error e) c) s)
 (n:Nat) (c:I n s):
 codeAny (model a w) A (.compLoop (.ListComp i [⟨h,iter,j,0⟩] t q) 0 d acc b) R s:=by
 show codeAny_loop rfl I (λn s b=> ?_) n c;show wpAny_noted ?_;rw[compTurn_list];show Wm (aas (Wm (Yp (u n s b) (λr f c=> ?_) λ_ _ a =>a)));cases r with
 |none=>show Ww c
 |some v=>
  show Wm (Yp c (λ_ k b => ?_) λ_ _ a =>a);show Wm (Yp b (λ_ l d=>Wm (Yp d (λok g c=> ?_) λ_ _ a =>a)) λ_ _ a =>a);cases ok with
  |false=>show Ww ⟨rfl,c⟩
  |true=>show Wm (Wm (Yp c (λx o b=>Wm (Yp b (λ_ p d=>Ww (Ww ⟨rfl,d⟩)) λ_ _ a =>a)) λ_ _ a =>a))
section
variable{X:Cx}
def Ry(b:TI)(k:TG)(n:TT)(l:TE)(c:ah Nat):TE:=λd H Q=>b d H λJ a=>∀D,a D=none->∃W:Nat->Nat->Hp->Prop,(∃m,W 0 m (upd a D (.lst [])))/\∀i m H,W i m H->
 (J.stop i H/\Q (.ref D) H)∨(J.go i H/\∃b:Hp->Prop,(∀a,b a->∃g,g <m/\W (i+1) g a)/\∀x a,J.BE i H x a->k x (d9 d c) a λe h=>d9 e c=d9 d c/\n e h λj f=>
   if j=true then l e f λy a=>∃acc,a D=some (.lst acc)/\acc.length<sizeLine/\b (upd a D (.lst (acc++[y])))else b f)
theorem HJ{pins:ah (ai×aV)}{s:aq}{k:St}{H:Hp}{Q:VK}{r l iter:bx}{t:ah bx}{c:Scope}{p:ah (Str×Nat)}{z L :Pos}{u:TI}{g:TG}{n:TT}{y:TE}{use:az (ak->Sem Unit)}{Qf:ak->aq->Prop}
 (G:X.calm=true) (J:X.N.Nodup) (I:Inv X pins k H s) (K:PI X l iter u) (ok:Dy X.N X.env.scope c p)
 (A:∀(s:aq)(H:Hp)(C:ai)(j:ah (Str×ai))(d:ah ai),PG (X.BR s H c (compEnvC c j C X.env) d) l g) (F:∀(s:aq)(H:Hp)(C:ai)(j:ah (Str×ai))(d:ah ai),Rx (X.BR s H c (compEnvC c j C X.env) d) t n)
 (i:∀(s:aq)(H:Hp)(C:ai)(j:ah (Str×ai))(d:ah ai),PE (X.BR s H c (compEnvC c j C X.env) d) r y) (a:∀x,foldedSetIterable iter X.env x=pure x)
 (E:Ry u g n y (p.map (·.2)) k H Q)
 (S:∀D C h m g,Inv X pins k g h->Q (.ref D) g->h.heap.Ns C m->uy X pins g C->compPost (model X.prog X.w) X.A X.xe use Qf (.ref D) C (.ok .next) h):
 wpAny (model X.prog X.w) X.A (comprehension (.ListComp r [⟨l,iter,t,0⟩] c z) c X.env L (newList []) false (eval iter X.env) use) Qf X.xe s:=by
 have Q:∀y∈c.names,y.2= .free->∃u,X.env.cells.lookup y.1=some u:=λy j f=>by
  rcases ok.free y j f with C|C
  show I.ok.has _ (.inl C);show I.ok.has _ (.inr C)
 show wpAny_comprehension_free (use:=use) rfl a (Gd Q) ok.kind (λy j f=>by rw[ok.uniq y j,f])
  (dz (K s k H _ I E) λL j Q=>dz Q λn C y=> ?_)
 obtain⟨E,d,w,Q,j,f,s,T,n,I,q⟩:=y;subst f;show Xp (Dv ?_) (by change 0<=sizeLine;decide);generalize y:C.heap.objs.size=D;have Q:=s.dD.fresh (Z7 y);obtain⟨W,⟨L,K⟩,V⟩:=q D Q;generalize H:({C with heap:=C.heap.push {cls:= .type "list",data:= .seq ([]:ah ak).toArray}}:aq)=a;have q:Inv X pins k (upd j D (.lst [])) a:=by rw[<- H];show s.laid (t' :=C.toks) (λb o f=>Wv _ f) (Z7 y) ⟨Xb _,[],0,.nil,?_⟩;rw[<- y];show WH _ rfl
 have Q:a.heap=C.heap.push {cls:= .type "list",data:= .seq ([]:ah ak).toArray}:=by rw[<- H]
 have sz:∀b∈d,b<C.heap.objs.size:=λb e=>by obtain⟨o,f,_⟩:=T.obj _ _ n b e;show WR f
 have s:∀b∈d,uy X pins (upd j D (.lst [])) b/\b<a.heap.objs.size:=λb e=>by have C:=sz b e;show⟨⟨?_,(I b e).2⟩,by rw[Q,XR];show aac C⟩;rw[aF (by rw[<- y];show W6 C)];show(I b e).1
 have H:w 0 a.heap:=T.keep _ _ _ n λb _ o f=>by rw[Q];show Wv _ f
 have y:=Dz q ok J s;have B:=A a (upd j D (.lst [])) a.heap.objs.size (cellsFrom (a.heap.objs.size+1) c.names (dB X.env.cells c.names [])) d;have pt:=F a (upd j D (.lst [])) a.heap.objs.size (cellsFrom (a.heap.objs.size+1) c.names (dB X.env.cells c.names [])) d;have A:=i a (upd j D (.lst [])) a.heap.objs.size (cellsFrom (a.heap.objs.size+1) c.names (dB X.env.cells c.names [])) d;change codeAny _ _ (.compStart (.ListComp r [⟨l,iter,t,0⟩] c z) 0 (.ref E) (.ref D) (compEnvC c (cellsFrom (a.heap.objs.size+1) c.names (dB X.env.cells c.names [])) a.heap.objs.size X.env)) (compPost (model X.prog X.w) X.A X.xe use Qf (.ref D) a.heap.objs.size) {a with heap:=pushCells (a.heap.push {cls:= .type "dict",data:= .dict #[]}) c.names};have I:∀b∈d,(upd j D (.lst [])) b=none:=λb e=>(s b e).1.1;generalize C:compEnvC c (cellsFrom (a.heap.objs.size+1) c.names (dB X.env.cells c.names [])) a.heap.objs.size X.env=i at y B pt A|-;have Q:i.locals=a.heap.objs.size:=by subst C;rfl
 generalize n:upd j D (.lst [])=C at q y B pt A K I s;generalize n:({a with heap:=pushCells (a.heap.push {cls:= .type "dict",data:= .dict #[]}) c.names}:aq)=j at y|-;have M:w 0 j.heap:=T.keep _ _ _ H λb _ o f=>by rw[<- n];show aay _ _ _ _ (Wv _ f)
 have F:∀{J :St}{g :Hp}{h :aq},Inv (X.BR a C c i d) [] J g h->(∀b∈d,g b=none)->∀b∈d,uy (X.BR a C c i d) [] g b:=λ{J g h} H n b e=>⟨n b e,(H.ok.Te b e).1,H.ok.M0 b e,.inl e,λx u f=>(H.ok.Te b e).2 x u f,λN J=>absurd (show N∈([]:ah (ai×aV))++[]from J) (by simp)⟩
 have J:codeAny (model X.prog X.w) X.A (.compLoop (.ListComp r [⟨l,iter,t,0⟩] c z) 0 (.ref E) (.ref D) i) (compPost (model X.prog X.w) X.A X.xe use Qf (.ref D) a.heap.objs.size) j:=by
  show BU (λu h =>∃j g,Inv (X.BR a C c i d) [] (d9 k (p.map (·.2))) g h/\w j h.heap/\(∀b∈d,g b=none)/\W j u g) ?_ L ⟨0,C,y,M,I,K⟩;rintro u L ⟨j,y,r,N,K,E⟩;rcases V j u y E with⟨I,U⟩|⟨P,O,R,step⟩
  have t:=T.done (X.BR a C c i d) rfl rfl rfl G j [] L _ y (λ_ _=>False) r (F r K) N I;show I9 t λV E⟨I,l⟩=> ?_;subst I;have t:=q.J_ (ch:=d) l.os l.base l.dD l.bare λb e=>⟨(s b e).1.2.2.2.1,(s b e).1.2.1,(s b e).1.2.2.2.2.1,(s b e).1.2.2.2.2.2⟩;have s:y a.heap.objs.size=none:=by have z:=l.free;rw[Q]at z;show z
  obtain⟨m,n,_⟩:=l.loc;have n:E.heap.Ns i.locals m:=n;rw[Q]at n;show S D a.heap.objs.size E m y t U n (q.I1 (Wu _) s);have n:=T.item (X.BR a C c i d) rfl rfl rfl G j [] L _ y (λ_ _=>False) r (F r K) N P;show I9 n λV E⟨q,I,Q⟩=> ?_;subst I;show I9 Q λ_ s⟨x,y,t,E,N,I,n⟩=> ?_;have r :=t.pinned (F t n) (T.obj _ _ I);show I9 (B s _ y x q _ r E (step x y N)) λ_ L⟨l,Q,K,n,F⟩=> ?_;show I9 (pt L l Q _ K F) λb q⟨E,t,y⟩=> ?_
  have Q:∀{h :aq}{g :Hp},Inv (X.BR a C c i d) ([]++uA d s.heap) l g h->O g->∃m,m<u/\∃j g,Inv (X.BR a C c i d) [] (d9 k (p.map (·.2))) g h/\w j h.heap/\(∀b∈d,g b=none)/\W j m g :=λ{h g} H r=>by
   obtain⟨F,K,L⟩:=R g r
   have u :∀b∈d,∀o,s.heap.get? b=some o->h.heap.get? b=some o/\g b=none:=λb e o f=>
    let z:=H.pin (b,o) (XH _ (XH _ (pB e f)))
    ⟨z.1,z.2.1⟩
   have s:(d9 k (p.map (·.2))).length=l.length:=(by rw[<- n,m7]);show⟨F,K,j+1,g,(H.pZ (pins:=[])).weak s (λN v f=> ?_),T.keep _ _ _ I λb e o f=>(u b e o f).1,λb e=> ?_,L⟩;rw[<- n]at f;show(q3 f).1;obtain⟨o,f,_⟩:=T.obj _ _ I b e;show(u b e o f).2
  cases b with
  |false=>simp only[Z0,YN]at y|-;show Q t y
  |true=>simp only[Za]at y|-;show I9 (A q l E _ t y) λz L⟨u,K,j,s,acc,I,n,r⟩=> ?_;show PF (X:=X.BR a C c i d) j I n s λE y=>Q y r
 show codeAny_compStart_list J (T.self X.A 0 _ _ _ M J)
theorem ju{f e iter:bx}{h:ah bx}{a:Scope}{own:ah (Str×Nat)}{I:Pos}{k:TI}{g:TG}{j:TT}{i:TE}(m:X.calm=true)(l:X.N.Nodup)(p:PI X e iter k)(ok:Dy X.N X.env.scope a own)
 (o:∀(s:aq)(H:Hp)(C:ai)(c:ah (Str×ai))(d:ah ai),PG (X.BR s H a (compEnvC a c C X.env) d) e g) (r:∀(s:aq)(H:Hp)(C:ai)(c:ah (Str×ai))(d:ah ai),Rx (X.BR s H a (compEnvC a c C X.env) d) h j)
 (n:∀(s:aq)(H:Hp)(C:ai)(c:ah (Str×ai))(d:ah ai),PE (X.BR s H a (compEnvC a c C X.env) d) f i) (q:autoParam (∀x,foldedSetIterable iter X.env x=pure x) cL._auto_5):
 PE X (.ListComp f [⟨e,iter,h,0⟩] a I) (Ry k g j i (own.map (·.2))):=by
 intro e s d H Q I h;rw[eval_ListComp];show HJ m l I p ok o r n q h λD C t e a c H d f=>⟨e,d,λi u=> ?_⟩;obtain⟨d,h,e,i,j,k⟩:=f;show⟨.ref D,a,c.turned (t' :=t.toks) (λb o f e=>(u.2 b f).trans e) d h i j k,rfl,H⟩
theorem DB(k:X.calm=true)(z:X.N.Nodup)(r:X.N[i]? =some y)(d:X.env.scope.names.lookup y=some .local)
 (L:swapsWith (.ListComp h [⟨e,iter,D,0⟩] a I) (some (.Name y u)) v.line X.env=pure true) (o:PI X e iter l) (ok:Dy X.N X.env.scope a own)
 (n:∀(s:aq)(H:Hp)(C:ai)(b:ah (Str×ai))(c:ah ai),PG (X.BR s H a (compEnvC a b C X.env) c) e g) (q:∀(s:aq)(H:Hp)(C:ai)(b:ah (Str×ai))(c:ah ai),Rx (X.BR s H a (compEnvC a b C X.env) c) D j)
 (m:∀(s:aq)(H:Hp)(C:ai)(b:ah (Str×ai))(c:ah ai),PE (X.BR s H a (compEnvC a b C X.env) c) h f) (p:autoParam (∀x,foldedSetIterable iter X.env x=pure x) cL._auto_5):
 PS X (.Assign [.Name y u] (.ListComp h [⟨e,iter,D,0⟩] a I) v) (Pa (Ry l g j f (own.map (·.2))) (mz i)):=by
 intro t s a H D I h;rw[exec_Assign_Name_used _ _ _ _ L];show Wm (aas (Wm ?_));have h:Ry l g j f (own.map (·.2)) a H (λx b=>mz i x a b D.nx):=h;show Wm (dz (HJ (Qf:=λ_ a =>SP X t D .next a) k z I o ok n q m p h λL C a H c b u x f=> ?_) λ_ a e=>Ww (Ww e));show wpAny_assign_Name (qU (v:=V.ref L) b z r (.inl d) rfl (λI D⟨a,k,e⟩=> ?_) (.inr d));obtain⟨d,h,z,j,b,l⟩:=f
 have f:C≠a:=by
  rcases e with z|z
  rw[z];show h;show λe=>b y a z e.symm
 show⟨H,x.sameBut k f,λa z=> ?_⟩;show⟨_,c,D.turned (t' :=I.toks) (λa o f e=>(z.2 a f).trans e) d h j b l,u⟩
theorem HK(e:a.scope.kind= .function)(g:a.scope.names.lookup y=some .local)(h:(c.line==b.line)=true)
 (f:(d.names.any λ(n,k)=>n==y&&(k== .local||k== .cell))=false):swapsWith (.ListComp i j d b) (some (.Name y c)) l a=pure true:=by
 have i:a.kindOf y=some .local:=g;have g:a.blockKind= .function:=by unfold Env.blockKind;rw[e];rfl
 have e:(a.blockKind== .function&&a.kindOf y==some .local&&c.line==b.line&& !(d.names.any λ(n,k)=>n==y&&(k== .local||k== .cell)))=true:=by rw[g,i,h,f];rfl
 show XE (pure:Bool->Sem Bool) e
end
theorem BV{K:ay}{g:ai}{xs:ah V}{q:TG}{r:TT}{o:TE}{d:ah Nat}{h:St}{b:Hp}{D:ai}{p:Hp->Prop}(a:Nat->Hp->Prop)(s:a 0 (upd b D (.lst [])))(u:∀i H,i<=xs.length->a i H->bG K H g xs)
 (v:∀i x H,xs[i]? =some x->a i H->q x (d9 h d) H λc j=>d9 c d=d9 h d/\r c j λl e=>
   if l=true then o c e λy f=>∃acc,f D=some (.lst acc)/\acc.length<sizeLine/\a (i+1) (upd f D (.lst (acc++[y])))else a (i+1) e) (t:∀H,a xs.length H->p H):
 ∃W:Nat->Nat->Hp->Prop,(∃m,W 0 m (upd b D (.lst [])))/\∀i m H,W i m H->
  ((CG K g).stop i H/\p H)∨((CG K g).go i H/\∃k:Hp->Prop,(∀b,k b->∃n,n <m/\W (i+1) n b)/\∀x b,(CG K g).BE i H x b->q x (d9 h d) b λc j=>d9 c d=d9 h d/\r c j λl e=>
    if l=true then o c e λy f=>∃acc,f D=some (.lst acc)/\acc.length<sizeLine/\k (upd f D (.lst (acc++[y])))else k e):=by
 show⟨λi m H=>m=xs.length-i/\i<=xs.length/\a i H,⟨xs.length,by simp,Xb _,s⟩,?_⟩;rintro i m H ⟨rfl,e,p⟩;have q:=u i H e p;by_cases e:i<xs.length;show .inr ⟨⟨xs,xs[i],q,by simp[e]⟩,a (i+1),λb c =>⟨xs.length-(i+1),Ye _ _ e,rfl,e,c⟩,λx b y=> ?_⟩;obtain⟨e,y⟩:=y;subst e;show v i x _ (y xs q) p;have e:i=xs.length:=by lia
 subst e;show .inl ⟨⟨xs,q,Wu _⟩,t H p⟩
noncomputable def Rz (N:ah Str) (c a:Scope) (b:ah (Str×Nat)):Bool:=
 (match a.kind with| .function=>true|_=>false)&&(a.names.all λy=>decide (a.names.lookup y.1=some y.2))&&(b.all λp=>decide (N[p.2]? =some p.1))&&
   (a.names.all λy=>match y.2 with
     | .free=>(match c.names.lookup y.1 with|some .cell=>true|some .free=>true|_=>false)
     | .local=>decide (y.1∈b.map (·.1))||decide (y.1∉N)
     | .cell=>decide (y.1∈b.map (·.1))||decide (y.1∉N)
     |_=>true)
theorem cY(h:Rz N sc q own=true):Dy N sc q own:=by
 unfold Rz at h;simp only[WV,X6,XA]at h;obtain⟨⟨⟨q,b⟩,c⟩,a⟩:=h;show⟨?_,b,c,λy h e=> ?_,λy h e=> ?_⟩;split at q;assumption;cases q;have q:=a y h;simp only[e]at q;split at q<;>first|show .inl (by assumption)|show .inr (by assumption)|cases q
 have q:=a y h;rcases e with e|e<;>(simp only[e,ZV,XA]at q;show q)
end L2
namespace L2
open PySem PySem.Spec PyProof.Rows
section
variable{d:aS}{w:aU}{A:bC}{R:Result->aq->Prop}{s:aq}{g i k j h:bx}{c b:ah bx}{a:Scope}{f:Pos}{l acc:ak}{e:Env}
end
section
variable{X:Cx}
end
end L2
namespace L2
open PySem PySem.Spec PyProof.Rows
section
variable{a:Type} [DecidableEq a]
noncomputable def d7 (c:ah (a×V)) (k:a):az V:=(c.find? λb=>decide (b.1=k)).map (·.2)
noncomputable def fV (c:ah (a×V)) (k:a) (v:V):ah (a×V):=
 if(c.any λb=>decide (b.1=k))=true then c.map (λb=>if b.1=k then(b.1,v)else b)else c++[(k,v)]
theorem uL{k:a}(e:p.1=k):d7 (p::r) k=some p.2:=by simp[d7,XO,e]
theorem uM{k:a}(e:¬p.1=k):d7 (p::r) k=d7 r k:=by simp[d7,XO,e]
theorem jR(k:a):∀e:ah (a×V),(e.any λb=>decide (b.1=k))=(d7 e k).isSome
 |[]=>rfl
 |p::r=>by rw[Yn];by_cases e:p.1=k;simp only[uL e,WK e,Bool.true_or,abM];rw[uM e,WC e,aa2];show jR k r
theorem ku(b:ah (a×V))(k:a)(v:V):(fV b k v).length<=b.length+1:=by unfold fV;split;rw[Wl];lia;rw[WY,WG,Xj];lia
theorem jS{k:a}(v:V)(h:d7 b k=none):fV b k v=b++[(k,v)]:=by unfold fV;rw[jR,h];show Wn (by decide)
theorem mJ.k7(r:mJ o u):o.isSome=u.isSome:=by
 cases o with
 |none=>cases u with
  |none=>rfl
  |some _=>show(show False from r).elim
 |some _=>cases u with
  |none=>show(show False from r).elim
  |some _=>rfl
theorem mJ.getD(r:mJ o u)(a:RelV d b):RelV (o.getD d) (u.getD b):=by
 cases o with
 |none=>cases u with
  |none=>show a
  |some _=>show(show False from r).elim
 |some _=>cases u with
  |none=>show(show False from r).elim
  |some _=>show r
theorem KV.val{b:ah (a×V)}{c:ah (a×ak)}(r:KV b c)(k:a):mJ (d7 b k) (valueAt c k):=by
 unfold KV at r
 induction r with
 |nil=>show True.intro
 | @cons p q b d h t g=>
   obtain⟨f,r⟩:=h;by_cases e:p.1=k
   . have c :=f.symm.trans e;have b:valueAt (q::d) k=some q.2:=(by simp[valueAt,XO,c]);rw[uL e,b];show r
   . have c :¬q.1=k:=λz=>e (f.trans z);have b:valueAt (q::d) k=valueAt d k:=(by simp[valueAt,XO,c]);rw[uM e,b];show g
theorem KV.any{c:ah (a×V)}{vs:ah (a×ak)}(r:KV c vs)(k:a):(c.any λb=>decide (b.1=k))=vs.any λb=>decide (b.1=k):=by
 unfold KV at r
 induction r with
 |nil=>rfl
 |cons h t b=>rw[Yn,Yn,b,h.1]
theorem KV.repl{e:ah (a×V)}{c:ah (a×ak)}(r:KV e c)(k:a){y:V}{u:ak}(d:RelV y u):
 KV (e.map λb=>if b.1=k then(b.1,y)else b) (c.map λb=>if b.1=k then(b.1,u)else b):=by
 unfold KV at r|-
 induction r with
 |nil=>show .nil
 | @cons p q c e h t b=>
   rw[WM,WM];show .cons ?_ b;obtain⟨b,c⟩:=h;by_cases e:p.1=k
   . rw[Wt e,Wt (b.symm.trans e)];show⟨b,d⟩
   . rw[Wn e,Wn (λz=>e (b.trans z))];show⟨b,c⟩
theorem KV.put{e:ah (a×V)}{b:ah (a×ak)}(r:KV e b)(k:a){y:V}{u:ak}(c:RelV y u):KV (fV e k y) (stored b k u):=by
 unfold fV stored;rw[r.any k];by_cases e:(b.any λu=>decide (u.1=k))=true
 . rw[Wt e,Wt e];show r.repl k c
 . rw[Wn e,Wn e];show abv r ⟨rfl,c⟩
theorem KV.length(r:KV kvs vs):kvs.length=vs.length:=XI r
end
theorem qa{k:Key}(r:RelV (kV k) u):(bY P w).is k u=true:=by
 cases k with
 |inl i=>obtain⟨t,e⟩:=(show∃t,u=Value.int i t from r);subst e;show Dh P w i t
 |inr x=>obtain⟨t,e⟩:=(show∃t,u=Value.str x t from r);subst e;show Di P w x t
theorem Af:∀{a}{r},bW (a.map kV) r->ItemsAre (bY P w) a r
 |[],_,r=>by rw[Z9]at r;cases r;show .nil
 |k::a,_,r=>by
  rw[WM]at r;cases r with
  |cons h t=>show .cons (qa h) (Af t)
abbrev KT(H:Hp):ah (ah Key×V)->ah (ah Key×ai×ak)->Prop:=Paired λp q=>p.1=q.1/\H q.2.1=some (.tup (p.1.map kV))/\RelV p.2 q.2.2
theorem KT.val(r:KT H a b) k:mJ (d7 a k) ((atKey b k).map (·.2)):=by
 induction r with
 |nil=>show True.intro
 | @cons p q a c h t g=>obtain⟨d,_,f⟩:=h;by_cases e:p.1=k;have a :=d.symm.trans e;have b:atKey (q::c) k=some q.2:=(by simp[atKey,XO,a]);rw[uL e,b];show f;have a :¬q.1=k:=λz=>e (d.trans z);have b:atKey (q::c) k=atKey c k:=(by simp[atKey,XO,a]);rw[uM e,b];show g
theorem KT.repl(r:KT H b e) k(c:RelV y u):
 KT H (b.map λa=>if a.1=k then(a.1,y)else a) (e.map (putAt k u)):=by
 induction r with
 |nil=>show .nil
 | @cons p q b e h t a=>rw[WM,WM];show .cons ?_ a;obtain⟨a,b,H⟩:=h;unfold putAt;by_cases e:p.1=k;rw[Wt e,Wt (a.symm.trans e)];show⟨a,b,c⟩;rw[Wn e,Wn (λz=>e (a.trans z))];show⟨a,b,H⟩
theorem KT.put{H:Hp}{q:ah (ah Key×V)}{xs:ah (ah Key×ai×ak)}(r:KT H q xs)(k:ah Key){b:ai}{y:V}{u:ak}(c:H b=some (.tup (k.map kV)))(a:RelV y u):
 KT H (fV q k y) (storedH xs k b u):=by
 have e:(q.any λb=>decide (b.1=k))=(atKey xs k).isSome:=by rw[jR,(r.val k).k7,aad]
 unfold fV storedH;rw[e];by_cases q:(atKey xs k).isSome=true;rw[Wt q,Wt q];show r.repl k a;rw[Wn q,Wn q];show abv r ⟨rfl,c,a⟩
theorem KT.keeps(r:KT H d e)(c:∀b z,H b=some (.tup z)->a b=some (.tup z)):KT a d e:=
 Paired.Q5 r λ_ _ z=>⟨z.1,c _ _ z.2.1,z.2.2⟩
section
variable{P:aS}{w:aU}{H:Hp}{h:aX}{a:ai}
theorem Om(ok:lG P w H h)(e:Rd H a u):dw P w H h a u:=e.ok ok
theorem k8(ok:lG P w H h)(e:Rd H a (.dK b)):b.length<=sizeLine/\(a==sysModules)=false/\∃c,KV b c/\h.DictOf (bY P w) a c:=
 show dw P w H h a (.dK b)from Om ok e
theorem Oo(ok:lG P w H h)(e:H a=some (.dK b)):b.length<=sizeLine/\(a==sysModules)=false/\∃c,KV b c/\h.DictOf (bY P w) a c:=k8 ok (.inl e)
theorem pF(ok:lG P w H h)(e:H a=some (.tup (b.map kV))):(tupleKind (bY P w)).is h b a:=by obtain⟨_,g,r,o,c,d,n,f⟩:=(show dw P w H h a (.tup (b.map kV))from ok a _ e);show⟨o,g.toArray,n,c,d,f,by simpa using Af r⟩
theorem uN(ok:lG P w H h)(e:Rd H a (.dT b)):b.length<=sizeLine/\(a==sysModules)=false/\
 ∃c,KT H b c/\h.DictOfH (tupleKind (bY P w)) a c:=by
 obtain⟨z,y,c,r,o,m,l,q,d,f,g,i⟩:=(show dw P w H h a (.dT b)from Om ok e);show⟨z,y,c,r,o,m,l,q,d,f,g,λx b=> ?_,i⟩
 have all:∀{l:ah (ah Key×V)}{m:ah (ah Key×ai×ak)},KT H l m->∀x∈m,(tupleKind (bY P w)).is h x.1 x.2.1:=by
  intro l m q
  induction q with
  |nil=>intro x b;show nomatch b
  | @cons p q m d c t l=>
    intro x b;rcases WB.mp b with e|b
    subst e;show pF ok (by rw[<- c.1];show c.2.1);show l x b
 show all r x b
theorem Oq(ok:lG P w H h)(e:H a=some (.dT b)):b.length<=sizeLine/\(a==sysModules)=false/\
 ∃c,KT H b c/\h.DictOfH (tupleKind (bY P w)) a c:=uN ok (.inl e)
end
def dJ(H:Hp)(b:ai)(y:V)(r:az V):Prop:=
 (∃a k,Rd H b (.dK a)/\y=kV k/\r=d7 a k)∨∃a k c,Rd H b (.dT a)/\y= .ref c/\H c=some (.tup (k.map kV))/\r=d7 a k
def m8(H:Hp)(b:ai)(y v:V)(c :Hp):Prop:=
 (∃a k,H b=some (.dK a)/\y=kV k/\a.length<sizeLine/\c =upd H b (.dK (fV a k v)))∨
 ∃a k d,H b=some (.dT a)/\y= .ref d/\H d=some (.tup (k.map kV))/\a.length<sizeLine/\c =upd H b (.dT (fV a k v))
theorem dJ.k{k:Key}(e:H a=some (.dK kvs)):dJ H a (kV k) (d7 kvs k):= .inl ⟨kvs,k,.inl e,rfl,rfl⟩
theorem dJ.t{k:ah Key}(e:H a=some (.dT c))(d:H b=some (.tup (k.map kV))):dJ H a (.ref b) (d7 c k):= .inr ⟨c,k,b,.inl e,rfl,d,rfl⟩
theorem m8.k{k:Key}(e:H a=some (.dK kvs))(b:kvs.length<sizeLine):m8 H a (kV k) v (upd H a (.dK (fV kvs k v))):= .inl ⟨kvs,k,e,rfl,b,rfl⟩
theorem m8.t{k:ah Key}(e:H a=some (.dT c))(d:H b=some (.tup (k.map kV)))(f:c.length<sizeLine):
 m8 H a (.ref b) v (upd H a (.dT (fV c k v))):= .inr ⟨c,k,b,e,rfl,d,f,rfl⟩
section
variable{X:Cx}{b:ah (ai×aV)}{c:St}{H:Hp}{s:aq}{a:ai}{y v:V}{u r:ak}{o:az V}{A:bC}{E:ak->aq->Prop}
theorem Inv.big(I:Inv X b c H s):sysModules<s.heap.objs.size:=by have h:=(I.mod.glob.keeps I.bk).lt;show ZN (by decide) h
theorem I_{Q:ak->aq->Prop}(p:A.units+1<cLine)(I:Inv X b c H s)(h:dJ H a y (some v))(m:RelV y u)(j:∀d e,Inv X b c H e->RelV v d->Q d e):
 wpAny (model X.prog X.w) A (getItem (.ref a) u) Q E s:=by
 rcases h with⟨e,k,f,g,l⟩|⟨e,k,Q,f,g,n,l⟩
 . subst g;obtain⟨z,o,q,h,e⟩:=k8 I.dD f;obtain⟨d,hw,i⟩:=mJ.some_of (v:=v) (o:=valueAt q k) (by rw[l];show h.val k);show wpAny_getItem_of (qa m) e.mapOf hw (j d _ (I.tok _) i)
 . subst g;cases(show u=Value.ref Q from m);obtain⟨z,o,Q,h,e⟩:=uN I.dD f;obtain⟨d,hw,i⟩:=mJ.some_of (v:=v) (o:=(atKey Q k).map (·.2)) (by rw[l];show h.val k);obtain⟨f,h,Q⟩:=abh.mp hw;show wpAny_getItem_heap (Zr p) (pF I.dD n) e h ?_;rw[Q];show j d _ (I.tok _) i
theorem TF{Q:ak->aq->Prop}(m:A.units+1<cLine)(I:Inv X b c H s)(g:dJ H a y o)(q:RelV y u)(i:∀d,Inv X b c H d->Q (.bool o.isSome) d):
 wpAny (model X.prog X.w) A (compareOp .In u (.ref a)) Q E s:=by
 rcases g with⟨d,k,e,f,l⟩|⟨d,k,Q,e,f,j,l⟩
 . subst f;obtain⟨z,g,n,h,d⟩:=k8 I.dD e;show wpAny_in_of (qa q) g d.mapOf ?_;rw[<-(h.val k).k7,<- l];show i _ (I.tok _)
 . subst f;cases(show u=Value.ref Q from q);obtain⟨z,g,q,h,d⟩:=uN I.dD e;show wpAny_in_heap (Zr m) (pF I.dD j) g d ?_;have q:=(h.val k).k7;rw[aad]at q;rw[<- q,<- l];show i _ (I.tok _)
theorem Nn{Q:ak->aq->Prop}(m:A.units+1<cLine)(I:Inv X b c H s)(g:dJ H a y o)(q:RelV y u)(i:∀d,Inv X b c H d->Q (.bool (!o.isSome)) d):
 wpAny (model X.prog X.w) A (compareOp .NotIn u (.ref a)) Q E s:=by
 rcases g with⟨d,k,e,f,l⟩|⟨d,k,Q,e,f,j,l⟩
 . subst f;obtain⟨z,g,n,h,d⟩:=k8 I.dD e;show wpAny_notIn_of (qa q) g d.mapOf ?_;rw[<-(h.val k).k7,<- l];show i _ (I.tok _)
 . subst f;cases(show u=Value.ref Q from q);obtain⟨z,g,q,h,d⟩:=uN I.dD e;show wpAny_notIn_heap (Zr m) (pF I.dD j) g d ?_;have q:=(h.val k).k7;rw[aad]at q;rw[<- q,<- l];show i _ (I.tok _)
theorem tE{ob:HO}(I:Inv X b c H s)(h:MT (H a))(g:Heap.SameBut a s.heap h')(f:∃q,h'.get? a=some q)(new:dw X.prog X.w (upd H a ob) h' a ob):
 Inv X b c (upd H a ob) {s with heap:=h',toks:=t'}:=
 I.write (x:=a) (e:=a) h (.inl rfl) (λd q e z=>(g.2 d e).trans z) f new
theorem KD(z:d.length<=sizeLine)(c:(a==sysModules)=false)(f:KV d e)(b:h'.DictOf (bY P w) a e):
 dw P w g h' a (.dK d):=⟨z,c,e,f,b⟩
theorem Ja{d :Hp}{Q:Unit->aq->Prop}(F:A.units+1<cLine)(I:Inv X b c H s)(g:m8 H a y v d)(B:RelV y u)(x:RelV v r)(t:∀e,Inv X b c d e->Q () e):
 wpAny (model X.prog X.w) A (setItem (.ref a) u r) Q E s:=by
 rcases g with⟨d,k,e,l,i,j⟩|⟨d,k,C,e,l,Q,i,j⟩
 . subst l j;obtain⟨z,m,g,f,i⟩:=Oo I.dD e;have p:g.length<=sizeLine:=(by rw[<- f.length];show z);have n:(fV d k v).length<=sizeLine:=(by have:=ku d k v;lia);show wpAny_setItem_pairs (hsz:=p) (qa B) i λw g o=>t _ ?_;have D:∃q,w.get? a=some q:=let⟨q,_,_,h,_⟩:=g;⟨q,h⟩
   show tE I (by rw[e];show True.intro) o D (KD n m (f.put k x) g)
 . subst l j;cases(show u=Value.ref C from B);obtain⟨z,m,j,f,i⟩:=Oq I.dD e;have p:j.length<=sizeLine:=(by rw[<- XI f];show z);have n:(fV d k v).length<=sizeLine:=(by have:=ku d k v;lia);show wpAny_setItem_heap (hsz:=p) (Zr F) (pF I.dD Q) i λw g o=>t _ ?_;obtain⟨q,j,i,h,l,p,t,_,w⟩:=g;show tE I (by rw[e];show True.intro) o ⟨q,h⟩ ⟨n,m,_,(f.put k Q x).keeps λg B d=> ?_,q,j,i,h,l,p,t,w⟩;rw[aF (bF d e (λz=>nomatch z))];show d
end
section
variable{X:Cx}{b:ah (ai×aV)}{d:St}{H:Hp}{s:aq}{a:ai}{c:ah (Key×V)}{k:Key}{u:ak}{A:bC}{E:ak->aq->Prop}
theorem RA(I:Inv X b d H s)(f:Rd H a (.dK c))(h:∀t e,Inv X b d H e->Q (.int c.length t) e):wpAny (model X.prog X.w) A (call (.builtin "len") [.ref a]) Q E s:=by obtain⟨z,g,t,e,Q⟩:=k8 I.dD f;show call_len_dict g Q (by rw[<- e.length];rw[Wx]at z;lia) ?_;rw[<- e.length];show h _ _ (I.tok _)
end
def PK(i:bx):Prop:=∀b a,subscripted i false b a=operate [b,a] (getItem b a)
theorem HL{T id:aC}
 (g:typeLookup (.type T) "__getitem__" =pure (some (.builtin id))) (j:PK e)
 (h:wpAny (model a w) A (eval f c) (λo r=>wpAny (model a w) A (eval e c) (λi b=>b.TypeIs o T/\wpAny (model a w) A (getItem o i) Q E b) E r) E s):
 wpAny (model a w) A (eval (.Subscript f e d) c) Q E s:=by
 show Subscript_ (Yp h (λo r c=>Yp c (λi b d=> ?_) λ_ _ x=>x) λ_ _ x=>x);obtain⟨c,d⟩:=d;unfold subscriptTail;show Wm ?_;rw[getitemInPython_of_ne c.not_modules];show Wm (wpAny_specialOf c g ?_);have c:wpAny (model a w) A (subscripted e false o i) (λr T=>wpAny (model a w) A (letTemporaryGo f o r>>=λ_=>pure r) Q E T) E b:=by rw[j o i];show wpAny_operating (Yp d (λr T a=>Wm (wpAny_letTemporaryGo (Ww a))) λ_ _ x=>x)
 first
  |show Ww (Wm c)
  |show Wm (Ww (Wm c))
  |show Wm c
theorem DC(I:Inv X b e H s)(g:dJ H a y o):s.TypeIs (.ref a) "dict" :=by
 rcases g with⟨a,k,e,_,_⟩|⟨a,k,b,e,_,_,_⟩
 obtain⟨_,_,b,_,a⟩:=k8 I.dD e;show a.typeIs;obtain⟨_,_,b,_,a⟩:=uN I.dD e;show a.typeIs
def Ot(e f:TE):TE:=λc H Q=>e c H λx d=>f c d λy a=>∃b v,x= .ref b/\dJ a b y (some v)/\Q v a
def RB(f e:TE):TE:=λc H Q=>f c H λy d=>e c d λx a=>∃b o,x= .ref b/\dJ a b y o/\Q (.bl o.isSome) a
def HM(f e:TE):TE:=λc H Q=>f c H λy d=>e c d λx a=>∃b o,x= .ref b/\dJ a b y o/\Q (.bl (!o.isSome)) a
def Ou(g i h:TE):TS:=λD a H=>h a H λv d=>g a d λx e=>i a e λy f=>∃c b,x= .ref c/\m8 f c y v b/\D.nx a b
section
variable{X:Cx}{o i e a:bx}{d f j:Pos}{b c h:TE}
theorem er(r:X.A.units+1<cLine)(p:PE X o b)(n:PE X i c)(q:autoParam (PK i) cL._auto_9):PE X (.Subscript o i d) (Ot b c):=by intro f s e H Q I m;show HL F.slot_dict_getitem.lookup q (dz (p s e H _ I m) λz y⟨B,f,j,w,t⟩=>dz (n y e f _ j t) λQ A⟨C,h,a,x,k,v,l,g,u⟩=> ?_);subst l;obtain rfl:z=Value.ref k:=w;show⟨DC a g,I_ r a g x λj Q e f =>⟨v,h,e,f,u⟩⟩
theorem m9(p:X.A.units+1<cLine)(m:PE X i c)(n:PE X o b):PC X .In i o (RB c b):=by intro d s a H Q I l;show dz (m s a H _ I l) λQ w⟨A,d,f,v,r⟩=>dz (n w a d _ f r) λx y⟨z,e,h,u,j,q,k,g,t⟩=> ?_;subst k;obtain rfl:x=Value.ref j:=u;show TF p h g v λd a=>⟨.bl q.isSome,e,a,rfl,t⟩
theorem fW(p:X.A.units+1<cLine)(m:PE X i c)(n:PE X o b):PC X .NotIn i o (HM c b):=by intro d s a H Q I l;show dz (m s a H _ I l) λQ w⟨A,d,f,v,r⟩=>dz (n w a d _ f r) λx y⟨z,e,g,u,h,q,j,k,t⟩=> ?_;subst j;obtain rfl:x=Value.ref h:=u;show Nn p g k v λd a=>⟨.bl (!q.isSome),e,a,rfl,t⟩
theorem iT(y:X.A.units+1<cLine)(w:PE X o b)(u:PE X i c)(z:PE X a h)(x:swapsWith a (some (.Subscript o i f)) d.line X.env=pure false):
 PS X (.Assign [.Subscript o i f] a d) (Ou b c h):=by
 intro j G e H D I t;show wpAny_Assign_Subscript (dz (z G e H _ I t) λr J⟨v,j,m,D,A⟩=>dz (w J e j _ m A) λL K⟨P,k,n,E,B⟩=>dz (u K e k _ n B) λN O⟨Q,M,p,F,q,l,s,g,C⟩=> ?_) x;subst s;obtain rfl:L=Value.ref q:=E;show Ja y p g F D λk j=>⟨e,l,j,C⟩
end
theorem DE(h:aX)(a:sysModules<h.objs.size):dw P w H (h.push {cls:= .type "dict",data:= .dict #[]}) h.objs.size (.dK []):=
 ⟨Xb _,Xs.mpr (Yt (W6 a)),[],.nil,Heap.DictOf.new h⟩
theorem DF(h:aX)(a:sysModules<h.objs.size):dw P w H (h.push {cls:= .type "dict",data:= .dict #[]}) h.objs.size (.dT []):=
 ⟨Xb _,Xs.mpr (Yt (W6 a)),[],.nil,_,#[],0,WH _ rfl,⟨rfl,rfl,rfl⟩,rfl,rfl,YQ⟩
def KG:TE:=λ_ H Q=>∀p,H p=none->Q (.ref p) (upd H p (.dK []))
def PL:TE:=λ_ H Q=>∀p,H p=none->Q (.ref p) (upd H p (.dT []))
section
variable{X:Cx}{a:Pos}
theorem qb:PE X (.Dict [] [] a) KG:=λq s b H Q I h=>wpAny_Dict_empty ⟨.ref s.heap.objs.size,_,I.laid (a:=s.heap.objs.size) (o:= .dK []) (t' :=s.toks) (λ_ _ q=>Wv _ q) (Wu _) (DE s.heap I.big),rfl,h _ (I.dD.fresh (Wu _))⟩
theorem KH:PE X (.Dict [] [] a) PL:=λq s b H Q I h=>wpAny_Dict_empty ⟨.ref s.heap.objs.size,_,I.laid (a:=s.heap.objs.size) (o:= .dT []) (t' :=s.toks) (λ_ _ q=>Wv _ q) (Wu _) (DF s.heap I.big),rfl,h _ (I.dD.fresh (Wu _))⟩
end
def uO:ah (TE×TE)->St->Hp->(ah (V×V)->Hp->Prop)->Prop
 |[],_,H,Q=>Q [] H
 |(tk,f)::r,a,H,Q=>tk a H λx b=>f a b λy c=>uO r a c λe d=>Q ((x,y)::e) d
abbrev VV:ah (V×V)->ah (ak×ak)->Prop:=Paired λp q=>RelV p.1 q.1/\RelV p.2 q.2
def SN(X:Cx)(e:Pos)(d:ah (az bx))(g:ah bx)(c:ah (TE×TE)):Prop:=
 ∀⦃b:ah (ai×aV)⦄(s:aq) (a:St) (H:Hp) (Q:ah (V×V)->Hp->Prop),Inv X b a H s->uO c a H Q->
  wpAny (model X.prog X.w) X.A (evalPairs (pairTrees d g X.env e)) (λh f =>∃c H,Inv X b a H f/\VV c h/\Q c H) X.xe s
theorem HN:SN X pos [] [] []:=λa s b H Q I h=>pairTrees_nil_walk ⟨[],H,I,.nil,h⟩
theorem DG{k v:bx}{tk b:TE}(e:PE X k tk)(g:PE X v b)(f:SN X pos c i d):
 SN X pos (some k::c) (v::i) ((tk,b)::d):=λj s a H Q I h=>
 pairTrees_cons_walk (dz (e s a H _ I h) λu n⟨x,b,c,l,i⟩=>dz (g n a b _ c i) λQ o⟨y,v,d,m,j⟩=>dz (f o a v _ d j) λQ i⟨e,b,c,h,g⟩=>⟨(x,y)::e,b,c,.cons ⟨l,m⟩ h,g⟩)
def jT(b c:ah (Key×V)):ah (Key×V):=c.foldl (λacc a=>fV acc a.1 a.2) b
theorem KV.merge:∀{q:ah (Key×V)}{p:ah (Key×ak)}{a:ah (Key×V)}{b:ah (Key×ak)},KV q p->KV a b->KV (jT a q) (merged b p):=by
 intro q p a b r;unfold KV at r
 induction r generalizing a b with
 |nil=>intro q;show q
 | @cons p q c e h t r=>intro c;have e:KV (fV a p.1 p.2) (stored b q.1 q.2):=(by have:=c.put p.1 h.2;rw[<- h.1];show this);show r e
theorem kL:∀b a,(jT a b).length<=a.length+b.length
 |[],a=>by change a.length<=a.length+0;lia
 |p::r,a=>by have b:=kL r (fV a p.1 p.2);have b:=ku a p.1 p.2;change(jT (fV a p.1 p.2) r).length<=_;rw[WG];lia
theorem uP:∀{c}{r},VV (c.map λh=>(kV h.1,h.2)) r->∃b,Carries (bY P w) r b/\KV c b
 |[],_,r=>by rw[Z9]at r;cases r;show⟨[],True.intro,.nil⟩
 |p::c,_,r=>by
  rw[WM]at r;cases r with
  | @cons a r c bs h t=>obtain⟨b,d,q⟩:=uP (P:=P) (w:=w) t;obtain⟨t,c⟩:=r;show⟨(p.1,c)::b,⟨qa h.1,rfl,d⟩,.cons ⟨rfl,h.2⟩ q⟩
def Ov(e:ah (TE×TE)):TE:=λf H Q=>∀p,H p=none->uO e f (upd H p (.dK [])) λd b=>b p=some (.dK [])/\∃a:ah (Key×V),d=a.map (λc=>(kV c.1,c.2))/\a.length<=15/\Q (.ref p) (upd b p (.dK (jT [] a)))
theorem Np(h:SN X b q I c)(g:q.all (·.isSome)=true)(i:q.length=I.length)(d:q≠[])
 (f:q.length<=15):PE X (.Dict q I b) (Ov c):=by
 intro b s m H Q I q;have j:=I.dD.fresh (Wu s.heap.objs.size);have b:=I.laid (a:=s.heap.objs.size) (o:= .dK []) (h' :=s.heap.push {cls:= .type "dict",data:= .dict #[]}) (t' :=s.toks) (λ_ _ q=>Wv _ q) (Wu _) (DE s.heap I.big);show wpAny_Dict_walk (knd:=bY X.prog X.w) g i d f (dz (h _ m _ _ b (q _ j)) λp o⟨n,H,I,l,e,a,c,Q,k⟩=> ?_);subst c;obtain⟨g,c,h⟩:=uP (P:=X.prog) (w:=X.w) l;obtain⟨z,d,H,f,b⟩:=Oo I.dD e;cases f;show⟨g,c,b,λh' X f=>⟨.ref s.heap.objs.size,_,?_,rfl,k⟩⟩;have g:(jT [] a).length<=sizeLine:=by have b:=kL a [];rw[Xj]at b;rw[Wx];lia
 have b:∃q,h'.get? s.heap.objs.size=some q:=let⟨q,_,_,c,_⟩:=X;⟨q,c⟩
 show tE I (by rw[e];show True.intro) f b (KD g d (h.merge .nil) X)
structure M2(X:Cx)(o:bx)(m:Str)(apos:Pos)(e f:bx)(Nq:Pos):Prop where
 base:attributeBase o m X.env (eval o X.env)=eval o X.env
 few:((backTo Nq (starEach [e,f] X.env)).all (λx=> !x.1)&&(backToKw Nq (keywordEach [] X.env)).all (λx=>x.1.isSome)
  &&decide (([e,f]:ah bx).length+([]:ah Keyword).length+(if([]:ah Keyword).isEmpty then 0 else 1)<30))=true
 line:(apos.endLine==Nq.line)=true
 trees:backTo Nq (starEach [e,f] X.env)=[(false,eval e X.env),(false,eval f X.env)]
def TH(H:Hp)(b:ai):Prop:=(∃a,Rd H b (.dK a))∨∃a,Rd H b (.dT a)
theorem PN(I:Inv X b c H s)(d:TH H a):
 s.TypeIs (.ref a) "dict"/\(∀b,Value.ref a= .ref b->∃ob,s.heap.get? b=some ob/\ob.dict=none)/\(a==sysModules)=false:=by
 rcases d with⟨a,e⟩|⟨a,e⟩
 obtain⟨_,f,d,_,a⟩:=k8 I.dD e;show⟨a.typeIs,λb q=> ?_,f⟩;cases q;obtain⟨ob,_,_,c,d,_⟩:=a;show⟨ob,c,d.2.1⟩;obtain⟨_,f,s,_,a⟩:=uN I.dD e;show⟨a.typeIs,λb q=> ?_,f⟩;cases q;obtain⟨ob,_,_,c,d,_⟩:=a;show⟨ob,c,d.2.1⟩
section
variable{X:Cx}{b:ah (ai×aV)}{c:St}{H:Hp}{s:aq}{a:ai}{y d:V}{u r:ak}{o:az V}{A:bC}{E:ak->aq->Prop}
theorem PR{Q:ak->aq->Prop}(q:A.units+1<cLine)(I:Inv X b c H s)(h:dJ H a y o)(n:RelV y u)(m:RelV d r)(j:∀f e,Inv X b c H e->RelV (o.getD d) f->Q f e):
 wpAny (model X.prog X.w) A (call (.builtin "dict.get") [.ref a,u,r]) Q E s:=by
 rcases h with⟨e,k,f,g,l⟩|⟨e,k,Q,f,g,p,l⟩
 . subst g;obtain⟨z,h,t,i,e⟩:=k8 I.dD f;show call_meetsIn abl e.typeIs F.entry_dict_get (F.args_dict_get_3 _ _ _) (meets_dict_get_default (bY X.prog X.w) a (qa n) h r) ⟨_,e.mapOf,j _ _ (I.tok _) ?_⟩;rw[l];show(i.val k).getD m
 . subst g;cases(show u=Value.ref Q from n);obtain⟨z,h,g,i,e⟩:=uN I.dD f;show call_meetsIn abl e.typeIs F.entry_dict_get (F.args_dict_get_3 _ _ _) (meetsH_dict_get_default (tupleKind (bY X.prog X.w)) a Q h r) ⟨Zr q,k,g,pF I.dD p,e,j _ _ (I.tok _) ?_⟩;rw[l];show(i.val k).getD m
end
def KJ(f h g:TE):TE:=λb H Q=>f b H λx c=>∃a,x= .ref a/\TH c a/\h b c λy e=>g b e λz d=>∃o,dJ d a y o/\Q (o.getD z) d
section
variable{X:Cx}{o e f:bx}{a b:Pos}{c h d:TE}
theorem uQ(u:X.A.units+1<cLine)(t:PE X o c)(r:PE X e h)(s:PE X f d)(m:M2 X o "get" a e f b):PE X (.Call (.Attribute o "get" a) [e,f] [] b) (KJ c h d):=by intro l x i H Q I q;show ZD m.base m.few m.line ZE abl F.type_dict_get (dz (t x i H _ I q) λz y⟨Q,k,j,w,l,p,n,v⟩=> ?_);subst p;obtain rfl:z=Value.ref l:=w;obtain⟨l,p,_⟩:=PN j n;show⟨l,p,?_⟩;rw[m.trees];show Zo rfl (aau (ZY (dz (r y i k _ j v) λn t⟨q,m,H,p,l⟩=>ZY (dz (s t i m _ H l) λr w⟨z,j,k,q,v,g,n⟩=>aaW ?_))));show PR u k g p q λt r m l =>⟨_,j,m,l,n⟩
end
section
variable{X:Cx}{b:ah (ai×aV)}{d:St}{H:Hp}{s:aq}{a:ai}{c:ah (Key×V)}{A:bC}{E:ak->aq->Prop}
end
section
variable{X:Cx}{b:ah (ai×aV)}{c:St}{H:Hp}{s:aq}{a:ai}{y:V}{u:ak}{A:bC}{E:ak->aq->Prop}
end
end L2
namespace L2
open PySem PySem.Spec PyProof.Rows
theorem uR:typeLookup (.type "list") "keys" =pure none:=am_miss_of_fast (by first|decide+kernel|rfl)
theorem DH:entryFor table "dict.update.loop" =some Builtin.«dict.update.loop»:=entryFor_of_tree (by kernel_rfl)
theorem m_:plainId "dict.update.loop" =true:=by decide+kernel
section
variable{prog:aS}{w:aU}{A:bC}{E:ak->aq->Prop}
theorem Jb{k:Nat}(g:s.heap.get? a=some o)(d:o.cls= .type "list")(f:o.data= .seq j k)(e:o.dict=none)(i:A.handled=none)
 (h:∀b tk,(∀c ob,s.heap.get? c=some ob->b.get? c=some ob)->Q none {s with heap:=b,toks:=tk}):wpAny (model prog w) A (getAttr? (.ref a) "keys") Q E s:=by
 obtain⟨c,m,l,Q⟩:=o;simp only at d f e;subst d f e;obtain⟨f,e,o,tk,os⟩:=s;have c:∀d,(⟨f,e,o,d,os⟩:aq).TypeIs (.ref a) "list" :=λ_=>⟨_,g,rfl⟩;have e:=uR;have f:(["__module__","__name__","__qualname__","__doc__","__annotations__"]:ah Str).contains "keys" =false:=by decide+kernel
 have s:("keys" :Str).length+100<=sizeLine:=by first|size_fits|decide+kernel
 have o:=sub_AttributeError;have o:=ZT.lookup;have o:=ZT.bind (.ref a);have o:=am_list_getattr_none;unfold getAttr? getAttrBy? getAttrBy
 repeat(any_goals(first|assumption|show c _|((with_reducible change wpAny _ _ (call (Value.builtin "list.__getattribute__") _ _) _ _ _);show aaM ZT (c _) am_entry_list_getattribute (F.args_list_getattribute_2 _ _) (meets_getattribute_miss_list a j k Q "keys" _ e f s) ⟨g,i,λb d l o => ?_⟩)|wp_step))
 obtain⟨e,f,c⟩:=o.there;unfold getattributeRaised
 repeat(any_goals(first|assumption|wp_step))
 all_goals first|show h _ _ o.keeps|(dsimp only;repeat(any_goals(first|assumption|show h _ _ o.keeps|wp_step)))
theorem DI(y:A.handled=none)(z:l≠I)(d:S≠I)(v:S≠l):
 ∀c i acc h t s,items.size=i+c.length->acc.length+c.length<=sizeLine->
  (∀j q,c[j]? =some q->∃b u,items[i+j]? =some (.ref b)/\b≠S/\b≠I/\IsTup s.heap b #[u,q.2]/\jO q.1 u=true)->
  s.heap.IsListIter I l i->s.heap.IsList l items->s.heap.DictOf (bY prog w) S acc->
  (∀a tk,a.DictOf (bY prog w) S (merged acc c)->(∀b o,b≠S->b≠I->s.heap.get? b=some o->a.get? b=some o)->R (.ok (.ret res)) {s with heap:=a,toks:=tk})->
  codeAny (model prog w) A (.builtin "dict.update.loop" ⟨[.ref S,.ref I,.int h t,res],[]⟩) R s
 |[],i,acc,h,t,s,g,B,r,hit,f,p,m=>by show aaz DH ?_;rw[ZH m_ _];show Wm (wpAny_pyNext_list_end (A:=A.in1) y hit f (by first|show Zt (Z7 g)|(simp at g;simp;lia)) λa x=> ?_);show Wm (Ww (Ww ?_));show m a s.toks (p.extBut x d) λb o _ n e=>x b o n e
 |q::c,i,acc,h,t,s,g,B,r,hit,f,p,m=>by
  obtain⟨b,u,n,s,t,C,x⟩:=r 0 q rfl;rw[WG]at g B;show aaz DH ?_;rw[ZH m_ _];show Wm (wpAny_pyNext_list_item (x:= .ref b) hit f (by simpa using n) λg u s=> ?_);have B:=C.extBut s.extBut t;have n:=f.extBut s.extBut z;have t:=p.extBut s.extBut d;obtain⟨o,f,g,p,b⟩:=id B;show Wm (YY ?_);show Wm (wpAny_tryCatch ?_);unfold Builtin.Dict.pairItems;show Wm (wpAny_typeOf (T:= "tuple") ⟨o,f,g⟩ ?_);rw[Wt (by first|decide|rfl|simp)];show Wm (abw f b (Ww ?_));show YY (wpAny_dictSet_pairs (knd:=bY prog w) (k:=q.1) x t (λg f b=> ?_) (by lia));show Ww ⟨aa3 m_ _,DI (items:=items) y z d v c (i+1) (stored acc q.1 q.2) (h+1) 0 _ (show items.size=i+1+c.length by lia) ?_ (λj o e=> ?_) ?_ ?_ f λa tk t k=> ?_⟩;have z:=stored_length_le acc q.1 q.2
  lia
  obtain⟨g,p,h,f,c,B,x⟩:=r (j+1) o (by simpa using e);show⟨g,p,?_,f,c,(B.extBut s.extBut c).extBut b.extBut f,x⟩;rw[show i+1+j=i+(j+1) by lia];show h;show u.at λf e=>b.extBut I f (Yt d) e;show n.extBut b.extBut (Yt v);show m a tk t λc d f g e=>k c d f g (b.extBut c d f (s.extBut c d g e))
theorem sU(n:A.handled=none)(h:s.heap.get? l=some g)(i:g.cls= .type "list")(p:g.dict=none)
 (m:g.data= .seq items r) (x:items.size=prs.length) (v:prs.length<=sizeLine)
 (y:∀(j:Nat)(q:Key×ak),prs[j]? =some q->∃(b:ai)(u:ak),items[j]? =some (.ref b)/\IsTup s.heap b #[u,q.2]/\jO q.1 u=true)
 (t:∀c tk,c.DictOf (bY prog w) s.heap.objs.size (merged [] prs)->(∀b o,s.heap.get? b=some o->c.get? b=some o)->Q (.ref s.heap.objs.size) {s with heap:=c,toks:=tk}):
 wpAny (model prog w) A (call (.type "dict") [.ref l]) Q E s:=by
 show callType_codes (Q₁:=λa d=>a= .ref s.heap.objs.size/\d={s with heap:=s.heap.push {cls:= .type "dict",data:= .dict #[]}}) F.kt_called_dict (F.kt_typeCall_dict_1 _) F.entry_dict_init (kt_code_dict_new _ ⟨rfl,rfl⟩) ?_;rintro a d ⟨rfl,rfl⟩;have k:(s.heap.push {cls:= .type "dict",data:= .dict #[]}).DictOf (bY prog w) s.heap.objs.size []:=Heap.DictOf.new s.heap;have f:∀b o,s.heap.get? b=some o->(s.heap.push {cls:= .type "dict",data:= .dict #[]}).get? b=some o:=λb o e=>Wv _ e;show⟨k.typeIs,F.args_dict_init_2 _ _,?_⟩;unfold Builtin.«dict.__init__»;show Wm ?_;unfold Builtin.Dict.selfAndRest;show Wm (aal k.typeIs ?_);change wpAny _ _ (pure (s.heap.objs.size,[Value.ref l])) _ _ _;show Ww ?_;change wpAny _ _ (Builtin.Dict.updateFrom "dict.__init__" s.heap.objs.size (.ref l) [] .none) _ _ _;unfold Builtin.Dict.updateFrom;show Wm (wpAny_typeOf (T:= "list") ⟨g,f _ _ h,i⟩ ?_);rw[Wt (by first|decide|rfl|simp)];show Wm (Jb (f _ _ h) i m p n λa B d=> ?_);rw[Wt (show(none:az ak).isNone=true from rfl)];show Wm (wpAny_rule ?_);have p:a.IsList l items:=⟨g,d _ _ (f _ _ h),i,r,m⟩;have g:s.heap.objs.size<a.objs.size:=by have e:(s.heap.push {cls:= .type "dict",data:= .dict #[]}).get? s.heap.objs.size=some {cls:= .type "dict",data:= .dict #[]}:=WH _ rfl;show WR (d _ _ e)
 show Wm (aaV p ?_);have i:∀b o,a.get? b=some o->(a.push {cls:= .type "list_iterator",data:= .fields #[.ref l,.int 0 0]}).get? b=some o:=λb o e=>Wv _ e;have m:=WR h
 have r:=DI (prog:=prog) (w:=w) (A:=A.in1) (R:=wants (λh z=>h= .none/\Q (.ref s.heap.objs.size) z) E) (S:=s.heap.objs.size) (I:=a.objs.size) (l:=l) (items:=items) (res:=Value.none) n
  (W6 (ZN m g)) (W6 g) (YH m) prs 0 [] 0 0
  {s with heap:=a.push {cls:= .type "list_iterator",data:= .fields #[.ref l,.int 0 0]},toks:=B} (by rw[x,XS]) (by rw[Xj,XS];show v)
  (λj q e=>by obtain⟨b,u,m,a,n⟩:=y j q e;have h:=a.lt;show⟨b,u,by rw[XS];show m,W6 h,W6 (ZN h g),a.keeps λj o z=>i _ _ (d _ _ (f _ _ z)),n⟩)
  ⟨_,WH _ rfl,rfl,rfl⟩ (p.at λo e=>i _ _ e) ((k.at λo e=>d _ _ e).at λo e=>i _ _ e)
  (λc tk a k=>⟨rfl,t c tk a λb o e=>k b o (W6 (WR e)) (W6 (ZN (WR e) g)) (i _ _ (d _ _ (f _ _ e)))⟩)
 first
  |show Ww ⟨aa3 m_ _,r⟩
  |show Wm (Ww (Ww ⟨aa3 m_ _,r⟩))
end
section
variable{X:Cx}
theorem KL(I:Inv X h u H s)(p:Paired (λp a=>dO X.K H p [kV a.1,a.2]) e c):
 ∃prs:ah (Key×ak),KV c prs/\prs.length=e.length/\∀(j:Nat)(q:Key×ak),prs[j]? =some q->∃(b:ai)(u:ak),e[j]? =some b/\IsTup s.heap b #[u,q.2]/\jO q.1 u=true:=by
 induction p with
 |nil=>show⟨[],.nil,rfl,λj q e=>by simp at e⟩
 | @cons p a _ _ h _ H=>
   obtain⟨prs,r,c,d⟩:=H;obtain⟨H,g,f,_⟩:=I.tuple h;obtain⟨u,y,H,h,I⟩:=vals2 g;subst H;show⟨(a.1,y)::prs,.cons ⟨rfl,I⟩ r,by rw[WG,WG,c],λj q e=> ?_⟩;cases j with
   |zero=>have a :=W5 e;subst a;show⟨p,u,rfl,f,qa (P:=X.prog) (w:=X.w) h⟩
   |succ j=>obtain⟨b,H,a,p,u⟩:=d j q (by simpa using e);show⟨b,H,by simpa using a,p,u⟩
theorem HP:∀{a:ah ai}{us:ah ak},bW (a.map V.ref) us->us=a.map Value.ref
 |[],us,r=>by rw[Z9]at r;cases r;rfl
 |p::a,us,r=>by
  rw[WM]at r;cases r with
  |cons h t=>cases h;rw[WM,<- HP t]
theorem uS(f:X.calm=true):fz X (.type "dict") (λxs H Q=>∃b c a,xs=[.ref b]/\bG X.K H b (c.map V.ref)/\Paired (λp q=>dO X.K H p [kV q.1,q.2]) c a/\
 ∀p,H p=none->Q (.ref p) (upd H p (.dK (jT [] a)))):=by
 intro d s e H xs g Q I r q;obtain⟨b,c,a,Q,g,d,q⟩:=q;subst Q;obtain⟨u,b,Q⟩:=vals1 r;subst b;cases Q;obtain⟨b,Q,e,c⟩:=I.list g;have b:=HP Q;subst b;rw[Wl]at c;obtain⟨prs,Q,b,m⟩:=KL I d;obtain⟨o,n,l,d,g,h⟩:=e;show sU (prs:=prs) (I.ok.hd f) l d g h (by simp[b]) (by rw[b];show c) (λj o e=> ?_) λt tk i k=> ?_;obtain⟨d,u,f,g,h⟩:=m j o e;show⟨d,u,by simp[f],g,h⟩;have f:(s.heap.objs.size==sysModules)=false:=Xs.mpr (YH I.big);have d:(jT [] a).length<=sizeLine:=by show Xi (kL a []) ?_;rw[Xj,XS,Q.length,b];show c
 show⟨.ref s.heap.objs.size,upd H s.heap.objs.size (.dK (jT [] a)),I.laid (t' :=tk) k (Wu _) (show dw X.prog X.w _ _ _ (.dK (jT [] a))from⟨d,f,merged [] prs,KV.merge Q .nil,i⟩),rfl,q _ (I.dD.fresh (Wu _))⟩
end
end L2
namespace L2
open PySem PySem.Spec PyProof.Rows
section
variable{X:Cx}{a:ah (ai×aV)}{b:St}{H:Hp}{s:aq}{c :aX}
theorem Inv.nW{t' :Nat}{ch:ah ai}{T:ai}{ob:HO}(I:Inv X a b H s)(k:∀d o,d∉ch->s.heap.get? d=some o->c.get? d=some o)(h:∀d∈ch,uy X a H d)(j:s.heap.objs.size<=T)
 (new:dw X.prog X.w (upd H T ob) c T ob):Inv X a b (upd H T ob) {s with heap:=c,toks:=t'}:=by
 have i:=I.dD.fresh j;have l:∀d u,H d=some u->d∉ch:=λd u e z=>by have q:=(h d z).1;rw[q]at e;cases e
 show I.step (g' :=s.gens) (d' :=s.drawn) (ch:=ch) (λd f=>⟨(h d f).2.2.2.1,(h d f).2.1,(h d f).2.2.2.2.1,(h d f).2.2.2.2.2⟩) (λd o _ _ g e _=>k d o g e) (λd o _ _ g e _=>⟨o.slots,k d o g e⟩)
  (λd o _ e n=> ?_) (λd o g e=>⟨o,k d o g e⟩) (λd w e=> ?_) (λd o u e=> ?_) (λd r e=>⟨#[],?_⟩) (λm p=> ?_) (λd u e=> ?_) I.bare
 rw[aF (W6 (W4 (WR e) j))];show n;rw[aF (aA e i)];show e;rw[aF (aA e i)];show e;rw[aF (aA e i),e];simp;obtain⟨o,m,j,r,t⟩:=p;show⟨o,m,j,k _ o (λz=>(h _ z).2.1 rfl) r,t⟩;by_cases f:d=T;subst f;rw[av]at e;cases e;show new;rw[aF f]at e;show(I.dD d u e).mU (λf v g q=>k f v ?_ q) (λf q=>by rw[aF (aA q i)];show q) λf w q=>by rw[aF (aA q i)];show q
 rcases g with z|z
 rw[z];show l d u e;show l f _ z
theorem Inv.lock(I:Inv X a b H s)(h:H d=some u)(f:MT (some u)):∃c,Inv X a b (upd H d (.dI c u)) s:=by
 have x:=I.dD d u h
 have q:∃c,s.heap.get? d=some c:=by
  cases u with
  |lst g=>obtain⟨_,_,_,_,e⟩:=x;show⟨_,e⟩
  |dK z=>obtain⟨_,_,_,_,o,_,_,e,_⟩:=x;show⟨o,e⟩
  |dT z=>obtain⟨_,_,_,_,o,_,_,e,_⟩:=x;show⟨o,e⟩
  |set S n=>obtain⟨o,_,_,_,e,_⟩:=x;show⟨o,e⟩
  |ins C o fs=>obtain⟨_,_,_,e,_⟩:=x;show⟨_,e⟩
  |ext o=>obtain⟨_,⟨_,e⟩,_⟩:=x;show⟨_,e⟩
  |_=>show False.elim f
 obtain⟨c,e⟩:=q;have new:dw X.prog X.w (upd H d (.dI c u)) s.heap d (.dI c u):=by show⟨e,x.mU (λo v _ q=>q) (λo q=> ?_) λo g q=> ?_⟩;rw[aF (λz=>by rw[z,h]at q;cases q;show f)];show q;rw[aF (λz=>by rw[z,h]at q;cases q;show f)];show q
 show⟨c,I.write (x:=d) (e:=d) (t' :=s.toks) (h' :=s.heap) (by rw[h];show f) (.inl rfl) (λo v _ q=>q) ⟨c,e⟩ new⟩
theorem Inv.DJ(I:Inv X a b H s)(h:H e=some u)(g:MT (some u)):∀c d,X.MX e≠some (.dI c d):=λc d f=>by have q:=I.base.pX e c d f;rw[h]at q;cases q;show g
theorem Inv.unlock(I:Inv X a b H s)(h:H f=some (.dI q u))(j:∀n d,X.MX f≠some (.dI n d)):Inv X a b (upd H f u) s:=by
 have g:∀c o,H c=some o->(∀n d,o≠.dI n d)->c≠f:=λc o e q z=>by rw[z,h]at e;cases e;show q _ _ rfl
 have neN:∀c,H c=none->c≠f:=λc e z=>by rw[z,h]at e;cases e
 show⟨I.ok,I.os,I.bare,⟨I.base.keep,I.base.slot,λc o e n q=> ?_,I.base.there,λc i e=> ?_,λc o x e=> ?_,λc l e=> ?_⟩,I.loc,I.cell,?_,λx d e=> ?_,λp k=> ?_,λc o e=> ?_,I.len⟩;rw[aF (neN c (I.base.free c o e n q))];show I.base.free c o e n q
 . have q:=I.base.sQ c i e;rw[aF (g c _ q (λ_ _ z=>nomatch z))];show q
 have q:=I.base.pX c o x e;rw[aF (λz=>by rw[z]at e;show j _ _ e)];show q
 . obtain⟨m,q⟩:=I.base.sR c l e;show⟨m,by rw[aF (g c _ q (λ_ _ z=>nomatch z))];show q⟩
 rw[aF (neN _ I.free)];show I.free;rw[aF (neN d (I.ko x d e))];show I.ko x d e;obtain⟨e,n,r⟩:=I.pin p k;show⟨e,by rw[aF (neN _ n)];show n,r⟩
 . by_cases n:c=f
   . rw[n,av]at e;cases e;rw[n];obtain⟨_,x⟩:=I.dD f _ h;show x.mU (λd v _ q=>q) (λd q=>by rw[aF (g d _ q (λ_ _ z=>nomatch z))];show q) λd i q=>by rw[aF (g d _ q (λ_ _ z=>nomatch z))];show q
   . rw[aF n]at e;show(I.dD c o e).mU (λd v _ q=>q) (λd q=>by rw[aF (g d _ q (λ_ _ z=>nomatch z))];show q) λd i q=>by rw[aF (g d _ q (λ_ _ z=>nomatch z))];show q
end
def RC(t:TS):TS:=λD e H=>∃d u,H d=some u/\MT (some u)/\∀b,t ⟨λc a =>a d=some (.dI b u)/\D.nx c (upd a d u),λv a =>a d=some (.dI b u)/\D.rt v (upd a d u),λc a =>a d=some (.dI b u)/\D.bk c (upd a d u),λc a =>a d=some (.dI b u)/\D.ct c (upd a d u)⟩ e (upd H d (.dI b u))
def KN(t:TE):TE:=λc H Q=>∃d u,H d=some u/\MT (some u)/\∀b,t c (upd H d (.dI b u)) λv a =>a d=some (.dI b u)/\Q v (upd a d u)
section
variable{X:Cx}
theorem HQ{st:b7}{t:TS}(i:PS X st t):PS X st (RC t):=by
 intro m s k H D I hw;obtain⟨l,u,c,d,hw⟩:=hw;obtain⟨j,g⟩:=I.lock c d;show dz (i s k _ _ g (hw j)) λh n q=> ?_;cases h with
 |next=>obtain⟨b,f,a,e,q⟩:=q;show⟨b,_,a.unlock e (I.DJ c d),q⟩
 |brk=>obtain⟨b,f,a,e,q⟩:=q;show⟨b,_,a.unlock e (I.DJ c d),q⟩
 |cont=>obtain⟨b,f,a,e,q⟩:=q;show⟨b,_,a.unlock e (I.DJ c d),q⟩
 |ret v=>obtain⟨x,b,f,a,r,e,q⟩:=q;show⟨x,b,_,a.unlock e (I.DJ c d),r,q⟩
theorem qc{t:TE}(h:PE X e t):PE X e (KN t):=by intro d s f H Q I hw;obtain⟨d,u,a,b,hw⟩:=hw;obtain⟨od,c⟩:=I.lock a b;show dz (h s f _ _ c (hw od)) λv Q⟨x,H,d,r,e,q⟩=> ?_;show⟨x,_,d.unlock e (I.DJ a b),r,q⟩
theorem nc{tk:Nat}(I:Inv X b c H s) o
 (T:qW X.prog X.w X.K e J [s.heap.objs.size] s.heap.objs.size a) (st:a 0 (s.heap.push o)) (q:R J H):QI X b c e R (.ref s.heap.objs.size) {s with heap:=s.heap.push o,toks:=tk}:=by
 show⟨s.heap.objs.size,[s.heap.objs.size],a,J,H,rfl,I.kept λb ob e=>Wv _ e,T,st,λb o=> ?_,q⟩;have e:b=s.heap.objs.size:=by simpa using o
 subst e;show I.I1 (Wu _) (I.dD.fresh (Wu _))
end
def TJ(lo c:Int)(n:Nat):It:=⟨λi _=>i<n,λi H x a =>a =H/\x= .int (lo+(i:Nat)*c),λi _=>n<=i⟩
theorem DK{K:ay} a lo d n:qW P w K u (TJ lo d n) [a] a (λi h=>IsRangeIter h a (lo+(i:Nat)*d) ((n:Int)-(i:Nat)) d)where
 mem:=by simp
 obj:=λi h st b c=>by
  have e:b=a:=by simpa using c
  subst e;show⟨_,st,λz k=>nomatch k⟩
 keep:=λi h f st k=>k a (by simp) _ st
 item:=by intro X q hw p r i v s y H E I g st t;subst q hw p;obtain⟨j,k,A,l,m,o⟩:=g a (by simp);have W:=Walks.range (prog:=X.prog) (w:=X.w) (I.ok.hd r) a lo d n;show W.item i s _ _ t st λz f tk u x kk=> ?_;obtain⟨W,rfl⟩:=u;have z:Inv X v y H {s with heap:=f,toks:=tk}:=I.turned (λb u c e=>kk b u (by simpa using c) e) j k l m o;show⟨_,rfl,uz (s:={s with heap:=f,toks:=tk}) (n:= "range_iterator") x rfl rfl (by decide) ⟨.int (lo+(i:Nat)*d),H,z,⟨W,rfl⟩,⟨rfl,rfl⟩,x,λb c=>(g b c).1⟩⟩
 done:=by intro X q hw p r i v s y H E I g st t;subst q hw p;obtain⟨j,k,A,l,m,o⟩:=g a (by simp);show wpAny_pyNext_range_end (I.ok.hd r) st (by have:n<=i:=t;lia) λf a=>⟨rfl,I.turned (t' :=s.toks) (λb u c e=>a b u c e) j k l m o⟩
 self:=λA i s Q E st h=>wpAny_pyIter_rangeiter st h
def UZ(i j c:Int)(n:Nat):Prop:=c≠0/\c.natAbs<1073741824/\Builtin.Range.small i j c=true/\Builtin.Range.rangeSize i j c=n
def RD(b:TA):TI:=λe H R=>b e H λd a=>∃(i j c:Int)(n:Nat),d=[.int i,.int j,.int c]/\UZ i j c n/\R (TJ i c n) a
section
variable{X:Cx}{a:bx}
theorem Jc(i:Gl X "range")(j:X.mg "range" =none)(e:PA X [d,b,c] p)
 (m:autoParam (starEach [d,b,c] X.env=(false,eval d X.env)::starEach [b,c] X.env) cL._auto_6) (k:autoParam ((backTo H (starEach [b,c] X.env)).any (·.1)=false) cL._auto_6):
 PI X a (.Call (.Name "range" r) [d,b,c] [] H) (RD p):=by
 intro f s g H R I c;show Call_ (qV I i j boot_range (Ys (dz (e f s g H _ I c) λn d⟨o,h,l,r,p⟩=> ?_) m k));obtain⟨i,j,k,n,e,⟨H,I,m,o⟩,q⟩:=p;subst e;cases r with
 |cons r c=>
  cases c with
  |cons p c=>
   cases c with
   |cons s c=>cases c;obtain⟨t,rfl⟩:=r;obtain⟨t',rfl⟩:=p;obtain⟨p,rfl⟩:=s;show call_range_3 H ?_ (.inl (PyProof.noPylong_small I));show wpAny_pyIter_range (IsRange.new ..) m ?_;have c:Inv X f g h {d with heap:=d.heap.push {cls:= .type "range",data:= .fields #[.int i t,.int j t',.int k p]}}:=l.kept (t' :=d.toks) λb H e=>Wv _ e;show nc (tk:=d.toks) c _ (DK _ i k n) ?_ q;have c:i+((0:Nat):Int)*k=i:=(by simp);have d:(n:Int)-((0:Nat):Int)=Builtin.Range.rangeSize i j k:=(by rw[o];simp);rw[c,d];show WH _ rfl
end
section
variable{X:Cx}{a:bx}
end
def RG(x:Str):It:=⟨λi _=>i<x.cps.size,λi H v a =>a =H/\∃c,x.cps[i]? =some c/\v= .str ⟨#[c]⟩,λi _=>x.cps.size<=i⟩
theorem DM{K:ay} a x t g(q:g= "str_ascii_iterator"∨g= "str_iterator"):
 qW P w K z (RG x) [a] a (λi h=>h.IsStrIter a g x t i)where
 mem:=by simp
 obj:=λi h st b c=>by
  have e:b=a:=by simpa using c
  subst e;obtain⟨o,e,r,d⟩:=st;show⟨o,e,λB z=>by rw[d]at z;cases z⟩
 keep:=λi h d st k=>let⟨o,z,W⟩:=st;⟨o,k a (by simp) o z,W⟩
 item:=by
  intro X v hw u f i y s z H E I p st w;subst v hw u;obtain⟨j,k,A,l,m,n⟩:=p a (by simp)
  have W:Walks X.prog X.w X.A a [a] [a] x.cps.size (SignAt x) (λi h=>h.IsStrIter a g x t i):=by
   rcases q with e|e
   rw[e];show Walks.strAscii (I.ok.hd f) a x t;rw[e];show Walks.strWide (I.ok.hd f) a x t
  have C:["enumerate","zip","dict_itemiterator","dict_reverseitemiterator","odict_iterator","itertools.zip_longest","itertools.pairwise"].contains g=false:=by
   rcases q with e|e
   rw[e];decide;rw[e];decide
  show W.item i s _ _ w st λB d tk t g kk=> ?_;obtain⟨r,D,B,rfl⟩:=t;have t:Inv X y z H {s with heap:=d,toks:=tk}:=I.turned (λb o c e=>kk b o (by simpa using c) e) j k l m n;obtain⟨P,e,x,W⟩:=id g;show⟨_,rfl,uz (s:={s with heap:=d,toks:=tk}) e x W C ⟨.str ⟨#[r]⟩,H,t,⟨D,rfl⟩,⟨rfl,r,B,rfl⟩,g,λb c=>(p b c).1⟩⟩
 done:=by
  intro X v hw u f i y s z H E I p st w;subst v hw u;obtain⟨j,k,A,l,m,n⟩:=p a (by simp);have g:=Zt w;rcases q with e|e
  rw[e]at st;show wpAny_pyNext_ascii_end (I.ok.hd f) st g λd a=>⟨rfl,I.turned (t' :=s.toks) (λb o c e=>a b o c e) j k l m n⟩;rw[e]at st;show wpAny_pyNext_wide_end (I.ok.hd f) st g λd a=>⟨rfl,I.turned (t' :=s.toks) (λb o c e=>a b o c e) j k l m n⟩
 self:=λA i s Q E st h=>by
  rcases q with e|e
  rw[e]at st;show wpAny_pyIter_striter_ascii st h;rw[e]at st;show wpAny_pyIter_striter_wide st h
def TN(b:TE):TI:=λc H R=>b c H λv a=>∃x,v= .str x/\R (RG x) a
theorem PV(t:PE X e b):PI X a e (TN b):=by intro b s X H R I h;show dz (t s X H _ I h) λv c⟨y,d,a,e,x,b,q⟩=> ?_;subst b;obtain⟨t,rfl⟩:=e;cases b:x.cps.all (· <128);show wpAny_pyIter_wide b (nc (tk:=c.toks) a _ (DM _ x t "str_iterator" (.inr rfl)) ⟨_,WH _ rfl,rfl,rfl⟩ q);show wpAny_pyIter_ascii b (nc (tk:=c.toks) a _ (DM _ x t "str_ascii_iterator" (.inl rfl)) ⟨_,WH _ rfl,rfl,rfl⟩ q)
section
variable{a:aS}{w:aU}{A:bC}{E:ak->aq->Prop}{s:aq}
theorem Ag(i:(d==sysModules)=false)(c:s.heap.get? d=some o)(h:o.ExactDict)(e:o.data= .dict f b)
 (g:Q (.ref s.heap.objs.size) {s with heap:=s.heap.push {cls:= .type "dict_keyiterator",data:= .fields #[.ref d,.int 0 0,.int f.size 0,.int b 0]}}):
 wpAny (model a w) A (pyIter (.ref d)) Q E s:=by
 have b:s.TypeIs (.ref d) "dict" :=⟨o,c,h.1⟩;show aa0 b F.slot_dict_iter (Yb F.slot_dict_iter b F.entry_dict_iter ?_ (F.args_dict_iter_1 _));unfold Builtin.«dict.__iter__»;show Wm ?_;unfold Builtin.Dict.dictSlotNone;show Wm (aal b ?_);change wpAny _ _ (pure (Value.ref d)) _ _ s;show Ww ?_;change wpAny _ _ (Builtin.Dict.showsAll d>>=_) _ _ s;unfold Builtin.Dict.showsAll;rw[Wn (by rw[i];show W3)];show Wm (Ww ?_);show Wm (YT c e ?_);show Wm (Zx c e ?_);show Wm (Xp (Ww ⟨_,rfl,"dict_keyiterator",_,⟨_,WH _ rfl,rfl⟩,X_.lookup,?_⟩));simpa[rawInt]using g
theorem w9(hit:s.heap.IsKeyIter b d i n e)(h:s.heap.get? d=some c)(g:c.data= .dict f e)
 (l:f.size=n) (m:f[i]? =some j) (k:∀c,c.IsKeyIter b d (i+1) n e->Heap.SameBut b s.heap c->Q (some j.key) {s with heap:=c}):wpAny (model a w) A (pyNext (.ref b)) Q E s:=by
 obtain⟨o,f,j,c⟩:=id hit;unfold pyNext
 show Wm (aa4 (X5 (name:=Str.ofString "__next__") hit.typeIs X_
  (Yb X_ hit.typeIs aav ?_ (aaq _))))
 show Wm (Ww ?_);show Wm ?_;show Wm ?_
 first|show Wm (YR hit.typeIs (Ww ?_))|show Wm (Ze hit.typeIs (Ww ?_))
 show Wm (ZI f c ?_);have Q:Builtin.Dict_items.ownsTuple "dict_keyiterator" =false:=by decide
 simp only[Q,Z0,YN];change wpAny _ _ (if(Value.ref d==Value.none)=true then _ else _) _ _ s;rw[Wn (show¬((Value.ref d==Value.none)=true)from W3)];show Wm (Ww ?_);show Wm (YT h g ?_);rw[Wn (by rw[l];simp)];show Wm (Ww ?_);show Wm (Zx h g ?_);rw[Wn (by simp)];show Ww ?_;obtain⟨g,h⟩:=Xz.mp m;simp only[show¬((i:Int)<0)from by lia,YN,WQ,Array.getElem?_eq_getElem g];show Wm ?_
 first|show Wm (YR hit.typeIs (Ww ?_))|show Wm (Ze hit.typeIs (Ww ?_))
 show Wm (wpAny_isOneOf_keyiter hit.typeIs ?_);change wpAny _ _ (setField (.ref b) 1 (rawInt ((i:Int)+1))>>=_) _ _ s;show Wm (Y5 f c (by simp) ?_)
 have g :(s.heap.update b (Obj.mapFields (·.setIfInBounds 1 (rawInt ((i:Int)+1))))).IsKeyIter b d (i+1) n e:=
  ⟨_,Y6 _ f (Zy (YD c _)),(Obj.cls_mapFields ..).trans j,by rw[YD c];simp[rawInt]⟩
 show Wm (YY ?_);show Wm (wpAny_isOneOf_keyiter (s:={s with heap:=s.heap.update b (Obj.mapFields (·.setIfInBounds 1 (rawInt ((i:Int)+1))))}) g.typeIs ?_);rw[h];show Ww (Ww ⟨_,rfl,Ww (k _ g (Zi ..))⟩)
theorem qd(m:A.handled=none)(hit:s.heap.IsKeyIter b d i n e)(h:s.heap.get? d=some g)(f:g.data= .dict c e)
 (j:c.size=n) (l:n<=i) (k:∀e,Heap.ExtBut b s.heap e->Q none {s with heap:=e}):wpAny (model a w) A (pyNext (.ref b)) Q E s:=by
 obtain⟨o,g,n,e⟩:=id hit;unfold pyNext
 show Wm (aa4 (X5 (name:=Str.ofString "__next__") hit.typeIs X_
  (Yb X_ hit.typeIs aav ?_ (aaq _))))
 show Wm (Ww ?_);show Wm ?_;show Wm ?_
 first|show Wm (YR hit.typeIs (Ww ?_))|show Wm (Ze hit.typeIs (Ww ?_))
 show Wm (ZI g e ?_);have n:Builtin.Dict_items.ownsTuple "dict_keyiterator" =false:=by decide
 simp only[n,Z0,YN];change wpAny _ _ (if(Value.ref d==Value.none)=true then _ else _) _ _ s;rw[Wn (show¬((Value.ref d==Value.none)=true)from W3)];show Wm (Ww ?_);show Wm (YT h f ?_);rw[Wn (by rw[j];simp)];show Wm (Ww ?_);show Wm (Zx h f ?_);rw[Wn (by simp)];show Ww ?_;have d :c.size<=i:=by rw[j];show l
 simp only[show¬((i:Int)<0)from by lia,YN,WQ,Zt d];show Wm ?_
 first|show Wm (YR hit.typeIs (Ww ?_))|show Wm (Ze hit.typeIs (Ww ?_))
 change wpAny _ _ (setField (.ref b) 0 .none>>=_) _ _ s;show Wm (Y5 g e (by simp) ?_);change wpAny _ _ (newExc (.type "StopIteration") []>>=_) _ _ _;show Wm ?_;simp only[newExc,newTuple];show Wm (Xp ?_ (by size_fits));show Wm (m:=firstArgMember _ _) (wpAny_of_eq (a:=Value.none) (by first|rfl|(simp only[firstArgMember];rfl)) ?_);show Xp ?_ (by size_fits);simp only[raiseNew];show Wm (abI ?_);rw[show A.in1.handled=none from m];show Wm (Ww (wpAny_throw ?_));show Wm (wpAny_isInstance (T:= "StopIteration") (b:=true) ⟨_,WH _ rfl,rfl⟩ isSubtype_stop ?_);show Ww (k _ (((Zi ..).extBut.push _).push _))
end
theorem Ge{e:Type}{a:ah (e×V)}{r:ah (e×ak)}(h:KV a r):∀{i:Nat}{k:e}{v:V},a[i]? =some (k,v)->∃u,r[i]? =some (k,u)/\RelV v u:=by
 unfold KV at h
 induction h with
 |nil=>intro i k v e;simp at e
 | @cons h b j u r t a=>
   intro i k v e;cases i with
   |zero=>simp only[Zk,aae]at e;subst e;show⟨b.2,?_,r.2⟩;simp only[Zk];show XE some (Z8 r.1.symm rfl)
   |succ j=>simp only[abb]at e|-;show a e
theorem b_{e f:Type}{G:e->f->Prop}{c:ah e}{d:ah f}(h:Paired G c d):∀{i:Nat}{a:e},c[i]? =some a->∃b,d[i]? =some b/\G a b:=by
 induction h with
 |nil=>intro i a e;simp at e
 | @cons a b c d r t f=>
   intro i c e;cases i with
   |zero=>simp only[Zk,aae]at e;subst e;show⟨b,rfl,r⟩
   |succ j=>simp only[abb]at e|-;show f e
theorem uT{k:Key}(h:jO k u=true):RelV (kV k) u:=by
 rcases dR h with⟨i,t,rfl,rfl⟩|⟨x,t,rfl,rfl⟩
 show⟨t,rfl⟩;show⟨t,rfl⟩
section
variable{X:Cx}{a:ah (ai×aV)}{b:St}{H:Hp}{s:aq}{d:ai}{o:aV}
theorem Inv.BW(I:Inv X a b H s)(l:H d=some (.dI o (.dK g))):
 (d==sysModules)=false/\s.heap.get? d=some o/\o.ExactDict/\∃c e f,o.data= .dict c e/\c.size=g.length/\KV g f/\s.heap.DictAt (bY X.prog X.w) d f e:=by
 obtain⟨g,z,m,f,k,n,c,e,i,j,h,r⟩:=I.dD d _ l;rw[g]at i;cases i;show⟨m,g,j,c,e,f,h,?_,k,o,c,g,j,h,r⟩;have g:=r.2.1.length;have c:=XI k;rw[Yz]at g
 lia
theorem Inv.PX{f:ah (ah Key×V)}(I:Inv X a b H s)(l:H d=some (.dI o (.dT f))):
 (d==sysModules)=false/\s.heap.get? d=some o/\o.ExactDict/\∃(c:Array DictEntry)(e:Nat),o.data= .dict c e/\c.size=f.length/\
   ∀(i:Nat)(k:ah Key)(v:V),f[i]? =some (k,v)->∃(g:DictEntry)(q:ai),c[i]? =some g/\g.key= .ref q/\H q=some (.tup (k.map kV)):=by
 obtain⟨f,z,n,t,j,r,c,e,h,p,m,g,_⟩:=I.dD d _ l;rw[f]at h;cases h;show⟨n,f,p,c,e,m,?_,λi k v h=> ?_⟩;have f:=abm g;have f:=XI j
 lia
 obtain⟨f,e,k,c,_⟩:=b_ j h;have q:=entry_at g i;rw[e]at q;show⟨_,f.2.1,q,rfl,c⟩
end
def QM(d:ai)(o:aV)(a:ah (Key×V)):It:=
 ⟨λi H=>H d=some (.dI o (.dK a))/\i<a.length,λi H x b =>b =H/\∃k v,a[i]? =some (k,v)/\x=kV k,λi H=>H d=some (.dI o (.dK a))/\a.length<=i⟩
def RH(d:ai)(o:aV)(a:ah (ah Key×V)):It:=
 ⟨λi H=>H d=some (.dI o (.dT a))/\i<a.length,λi H x b =>b =H/\∃(k:ah Key)(v:V)(q:ai),a[i]? =some (k,v)/\x= .ref q/\H q=some (.tup (k.map kV)),λi H=>H d=some (.dI o (.dT a))/\a.length<=i⟩
def U0(d:ai)(o:aV)(a:ah (Key×V)):It:=
 ⟨λi H=>H d=some (.dI o (.dK a))/\i<a.length,λi H x b =>b =H/\∃k,a[i]? =some (k,x),λi H=>H d=some (.dI o (.dK a))/\a.length<=i⟩
def TQ(d:ai)(o:aV)(a:ah (Key×V)):It:=
 ⟨λi H=>H d=some (.dI o (.dK a))/\i<a.length,λi H x b =>∃T k v,a[i]? =some (k,v)/\x= .ref T/\H T=none/\b =upd H T (.tup [kV k,v]),λi H=>H d=some (.dI o (.dK a))/\a.length<=i⟩
theorem iU{o:aV}{c d :Array DictEntry}{a b :Nat}(h:o.data= .dict c a)(e :o.data= .dict d b):d =c/\b =a:=by rw[h]at e;cases e;show⟨rfl,rfl⟩
section
variable{P:aS}{w:aU}{K:ay}{c:bx}{d:ai}{o:aV}{b:Array DictEntry}{a:Nat}
theorem Jd h(Q:o.data= .dict b a):qW P w K c (QM d o p) [h] h (λi j=>j.IsKeyIter h d i p.length a)where
 mem:=by simp
 obj:=λi j st f g=>by
  have e:f=h:=by simpa using g
  subst e;obtain⟨q,e,G,r⟩:=st;show⟨q,e,λU z=>by rw[r]at z;cases z⟩
 keep:=λi j l st k=>st.at λq e=>k h (by simp) q e
 item:=by intro X A hw z J i S s W H F I n st C;subst A hw z;obtain⟨B,D⟩:=C;obtain⟨t,u,xh,v,x,y⟩:=n h (by simp);obtain⟨xq,L,xr,xg,Z,V,m,R,E,O⟩:=I.BW B;obtain⟨rfl,rfl⟩:=iU Q m;obtain⟨⟨k,U⟩,M⟩:∃Y,p[i]? =some Y:=⟨p[i],Wr D⟩;obtain⟨T,Y,N⟩:=Ge E M;have N:p.length=V.length:=XI E;rw[N]at st;show wpAny_pyNext_dict_item st O Y λp l xj T xu=> ?_;have Y:Inv X S W H {s with heap:=l}:=I.turned (t' :=s.toks) (λf ob g e=>(xu.2 f g).trans e) t u v x y;obtain⟨q,e,G,r⟩:=id T;show⟨p,rfl,uz (s:={s with heap:=l}) e G r (by decide) ⟨kV k,H,Y,uT (show jO k p=true from xj),⟨rfl,k,U,M,rfl⟩,?_,λf g=>(n f g).1⟩⟩;rw[N];show T
 done:=by intro X A hw z J i S s W H F I n st C;subst A hw z;obtain⟨B,D⟩:=C;obtain⟨t,u,xh,v,x,y⟩:=n h (by simp);obtain⟨xq,L,xr,xg,Z,V,m,R,E,O⟩:=I.BW B;obtain⟨rfl,rfl⟩:=iU Q m;show qd (I.ok.hd J) st L m R D λl p=>⟨rfl,I.turned (t' :=s.toks) (λf ob g e=>p f ob g e) t u v x y⟩
 self:=λA i s Q F st j=>wpAny_pyIter_keyiter st j
theorem Gf f(R:o.data= .dict b a):qW P w K c (RH d o G) [f] f (λi j=>j.IsKeyIter f d i G.length a)where
 mem:=by simp
 obj:=λi j st g h=>by
  have e:g=f:=by simpa using h
  subst e;obtain⟨p,e,M,q⟩:=st;show⟨p,e,λJ z=>by rw[q]at z;cases z⟩
 keep:=λi j l st n=>st.at λp e=>n f (by simp) p e
 item:=by intro X z hw y O i S s U H L I m st B;subst z hw y;obtain⟨A,D⟩:=B;obtain⟨r,t,xg,u,v,x⟩:=m f (by simp);obtain⟨xq,C,xr,Z,Y,k,E,N⟩:=I.PX A;obtain⟨rfl,rfl⟩:=iU R k;obtain⟨⟨n,J⟩,Q⟩:∃V,G[i]? =some V:=⟨G[i],Wr D⟩;obtain⟨W,G,V,xh,xj⟩:=N i n J Q;show w9 st C k E V λl T xu=> ?_;have V:Inv X S U H {s with heap:=l}:=I.turned (t' :=s.toks) (λg ob h e=>(xu.2 g h).trans e) r t u v x;obtain⟨p,e,M,q⟩:=id T;show⟨W.key,rfl,uz (s:={s with heap:=l}) e M q (by decide) ⟨.ref G,H,V,xh,⟨rfl,n,J,G,Q,rfl,xj⟩,T,λg h=>(m g h).1⟩⟩
 done:=by intro X z hw y O i S s U H L I m st B;subst z hw y;obtain⟨A,D⟩:=B;obtain⟨r,t,xg,u,v,x⟩:=m f (by simp);obtain⟨xq,C,xr,Z,Y,k,E,N⟩:=I.PX A;obtain⟨rfl,rfl⟩:=iU R k;show qd (I.ok.hd O) st C k E D λl z=>⟨rfl,I.turned (t' :=s.toks) (λg ob h e=>z g ob h e) r t u v x⟩
 self:=λA i s Q L st j=>by show aa0 st.typeIs aaA (Yb aaA st.typeIs F.entry_dict_keyiterator_iter ?_ (F.args_dict_keyiterator_iter_1 _));change wpAny _ _ (ret (.ref f)) _ _ s;show Ww ⟨_,rfl,"dict_keyiterator",_,st.typeIs,X_.lookup,j⟩
theorem Je h(O:o.data= .dict b a):qW P w K c (U0 d o p) [h] h (λi j=>j.IsValIter h d i p.length a)where
 mem:=by simp
 obj:=λi j st f g=>by
  have e:f=h:=by simpa using g
  subst e;obtain⟨q,e,J,r⟩:=st;show⟨q,e,λR z=>by rw[r]at z;cases z⟩
 keep:=λi j k st F=>st.at λq e=>F h (by simp) q e
 item:=by intro X A hw z L i Q s T H G I l st D;subst A hw z;obtain⟨B,M⟩:=D;obtain⟨t,u,Y,v,x,y⟩:=l h (by simp);obtain⟨xg,Z,xj,W,V,S,C,xh,n,E⟩:=I.BW B;obtain⟨rfl,rfl⟩:=iU O C;obtain⟨⟨F,R⟩,N⟩:∃U,p[i]? =some U:=⟨p[i],Wr M⟩;obtain⟨xu,U,xq⟩:=Ge n N;have m:p.length=S.length:=XI n;rw[m]at st;show wpAny_pyNext_values_item st E U λk p xr=> ?_;have U:Inv X Q T H {s with heap:=k}:=I.turned (t' :=s.toks) (λf ob g e=>(xr.2 f g).trans e) t u v x y;obtain⟨q,e,J,r⟩:=id p;show⟨xu,rfl,uz (s:={s with heap:=k}) e J r (by decide) ⟨R,H,U,xq,⟨rfl,F,N⟩,?_,λf g=>(l f g).1⟩⟩;rw[m];show p
 done:=by intro X A hw z L i Q s T H G I l st D;subst A hw z;obtain⟨B,M⟩:=D;obtain⟨t,u,Y,v,x,y⟩:=l h (by simp);obtain⟨xg,Z,xj,W,V,S,C,xh,n,E⟩:=I.BW B;obtain⟨rfl,rfl⟩:=iU O C;have m:=XI n;rw[m]at st;show wpAny_pyNext_values_end (I.ok.hd L) st E (Xh (by lia)) λk p=>⟨rfl,I.turned (t' :=s.toks) (λf ob g e=>p f ob g e) t u v x y⟩
 self:=λA i s Q G st j=>wpAny_pyIter_valiter st j
theorem Gg{kk:Nat} c(G:o.data= .dict b a):
 qW P w K (.Tuple N kk r) (TQ d o h) [c] c (λi l=>∃ok j,IsItemIter l c d i h.length a ok j)where
 mem:=by simp
 obj:=λi l st f g=>by
  have e:f=c:=by simpa using g
  subst e;obtain⟨ok,j,e⟩:=st;show⟨_,e,λv z=>nomatch z⟩
 keep:=λi l q st k=>let⟨ok,j,e⟩:=st;⟨ok,j,k c (by simp) _ e⟩
 item:=by
  intro X t hw r B i xj s xr H E I m st y;subst t hw r;obtain⟨u,C⟩:=y;obtain⟨Z,U,xh,Q,O,M,x,xg,p,z⟩:=I.BW u;obtain⟨rfl,rfl⟩:=iU G x;obtain⟨⟨k,v⟩,D⟩:∃N,h[i]? =some N:=⟨h[i],Wr C⟩;obtain⟨L,N,xq⟩:=Ge p D;have n:h.length=M.length:=XI p;obtain⟨ok,j,h⟩:=st;rw[n]at h;have F:c<s.heap.objs.size:=WR h;show wpAny_pyNext_items_item h z N λA q Y S R J V=> ?_;show⟨_,rfl,aaG (s:={s with heap:=q}) S λN T J=> ?_⟩;have S:=(J.2 _ (YH F)).trans R
  have new:dw X.prog X.w (upd H s.heap.objs.size (.tup [kV k,v])) N s.heap.objs.size (.tup [kV k,v]):=
   ⟨by change 2<=sizeLine;decide,[A,L],.cons (uT (show jO k A=true from Y)) (.cons xq .nil),⟨_,S,rfl,_,rfl⟩⟩
  have N:=
   I.nW (t' :=s.toks) (ch:=[c]) (λf ob g e=>(J.2 f (by simpa using g)).trans (V f ob (by simpa using g) e)) m (Wu _) new
  show⟨.ref s.heap.objs.size,_,N,rfl,⟨_,k,v,D,rfl,I.dD.fresh (Wu _),rfl⟩,⟨A,L,?_⟩,λf g=> ?_⟩;rw[n];show T;have e:f=c:=by simpa using g
  rw[e,aF (W6 F)];show(m c (by simp)).1
 done:=by intro X t hw r B i xj s xr H E I m st y;subst t hw r;obtain⟨u,C⟩:=y;obtain⟨k,r,N,t,v,y⟩:=m c (by simp);obtain⟨Z,U,xh,Q,O,M,x,xg,p,z⟩:=I.BW u;obtain⟨rfl,rfl⟩:=iU G x;have n:=XI p;obtain⟨ok,j,h⟩:=st;rw[n]at h;show wpAny_pyNext_items_end (I.ok.hd B) h z (Xh (by lia)) λq c=>⟨rfl,I.turned (t' :=s.toks) (λf ob g e=>c f ob g e) k r t v y⟩
 self:=λA i s Q E st l=>let⟨_,_,e⟩:=st;W.kcp_self e l
end
def RJ(c:TE):TI:=λe H R=>c e H λx b=>∃d o,x= .ref d/\((∃a,b d=some (.dI o (.dK a))/\R (QM d o a) b)∨∃a,b d=some (.dI o (.dT a))/\R (RH d o a) b)
def RK(c:TE):TI:=λe H R=>c e H λx a=>∃d o b,x= .ref d/\a d=some (.dI o (.dK b))/\R (U0 d o b) a
def PY(c:TE):TI:=λe H R=>c e H λx a=>∃d o b,x= .ref d/\a d=some (.dI o (.dK b))/\R (TQ d o b) a
section
variable{X:Cx}{f e:bx}{c:TE}{a b:Pos}
theorem BX(g:PE X e c):PI X f e (RJ c):=by
 intro a s j H R I h;show dz (g s j H _ I h) λu k⟨x,l,b,i,d,o,a,q⟩=> ?_;subst a;obtain rfl:u=Value.ref d:=i;rcases q with⟨a,d,q⟩|⟨a,d,q⟩
 obtain⟨h,g,j,I,H,o,a,i,u,l⟩:=b.BW d;show Ag h g j a (nc (tk:=k.toks) b _ (Jd _ a) ⟨_,WH _ rfl,rfl,?_⟩ q);rw[i]<;>rfl;obtain⟨h,g,j,I,H,a,i,l⟩:=b.PX d;show Ag h g j a (nc (tk:=k.toks) b _ (Gf _ a) ⟨_,WH _ rfl,rfl,?_⟩ q);rw[i]<;>rfl
theorem Jf(p:PE X e c)(n:autoParam (attributeBase e "values" X.env (eval e X.env)=eval e X.env) cL._auto_6)(r:autoParam ((a.endLine==b.line)=true) cL._auto_6):PI X f (.Call (.Attribute e "values" a) [] [] b) (RK c):=by
 intro k t i H R I m;show ZD (T:= "dict") (id:= "dict.values") n rfl r ZE Z1 F.type_dict_values (dz (p t i H _ I m) λu g⟨x,l,j,s,d,w,v,h,o,q⟩=> ?_);subst h;obtain rfl:u=Value.ref d:=s;obtain⟨p,t,I,s,n,r,m,u,H,h⟩:=j.BW o;have n:=XI H;show⟨h.dictOf.typeIs,h.dictOf.mapOf.noDict,?_⟩;have H:Inv X k i l {g with heap:=g.heap.push {cls:= .type "dict_values",data:= .fields #[.ref d]}}:=j.kept (t' :=g.toks) λo ob q=>Wv _ q;have j:wpAny (model X.prog X.w) X.A (pyIter (.ref g.heap.objs.size)) (QI X k i f R) X.xe {g with heap:=g.heap.push {cls:= .type "dict_values",data:= .fields #[.ref d]}}:=by show wpAny_pyIter_values (d:=d) (knd:=bY X.prog X.w) ⟨_,WH _ rfl,rfl,rfl⟩ (h.push _) (nc (tk:=g.toks) H _ (Je _ m) ⟨_,WH _ rfl,rfl,?_⟩ q);rw[n]<;>rfl
 show aaO Z1 F.entry_dict_values rfl (Zh ⟨rfl,h.dictOf.typeIs,F.args_dict_values_1 _,_,meets_dict_values (bY X.prog X.w) d p,⟨r,h.dictOf⟩,j⟩)
theorem KP{kk:Nat}(p:PE X e c)(n:autoParam (attributeBase e "items" X.env (eval e X.env)=eval e X.env) cL._auto_6)(r:autoParam ((a.endLine==b.line)=true) cL._auto_6):
 PI X (.Tuple l kk u) (.Call (.Attribute e "items" a) [] [] b) (PY c):=by
 intro j t h H R I m;show ZD (T:= "dict") (id:= "dict.items") n rfl r ZE aaf F.type_dict_items (dz (p t h H _ I m) λv f⟨y,k,i,s,d,x,w,g,o,q⟩=> ?_);subst g;obtain rfl:v=Value.ref d:=s;obtain⟨p,t,I,s,n,r,m,v,H,g⟩:=i.BW o;have n:=XI H;show⟨g.dictOf.typeIs,g.dictOf.mapOf.noDict,?_⟩;have H:Inv X j h k {f with heap:=f.heap.push {cls:= .type "dict_items",data:= .fields #[.ref d]}}:=i.kept (t' :=f.toks) λo ob q=>Wv _ q;have i:wpAny (model X.prog X.w) X.A (pyIter (.ref f.heap.objs.size)) (QI X j h (.Tuple l kk u) R) X.xe {f with heap:=f.heap.push {cls:= .type "dict_items",data:= .fields #[.ref d]}}:=by show wpAny_pyIter_items (d:=d) (knd:=bY X.prog X.w) ⟨_,WH _ rfl,rfl,rfl⟩ (g.push _) (nc (tk:=f.toks) H _ (Gg _ m) ⟨.none,.none,?_⟩ q);rw[n];show WH _ rfl
 show aaO aaf F.entry_dict_items rfl (Zh ⟨rfl,g.dictOf.typeIs,F.args_dict_items_1 _,_,meets_dict_items (bY X.prog X.w) d p,⟨r,g.dictOf⟩,i⟩)
end
def Nr(K:ay)(b:ai):It:=
 ⟨λi H=>∃(a:ah V)(x:V),bG K H b a/\a[i]? =some x,λi H v c =>∃T x,v= .ref T/\H T=none/\c =upd H T (.tup [.int (i:Nat),x])/\∀a,bG K H b a->a[i]? =some x,λi H=>∃a:ah V,bG K H b a/\a.length<=i⟩
theorem Jg{K:ay}{kk:Nat} b e a:
 qW P f K (.Tuple w kk n) (Nr K b) [e,a] e (λi h=>(∃g,IsEnum h e a ((i:Nat):Int) g)/\h.IsListIter a b i/\e≠a)where
 mem:=by simp
 obj:=λi h st b c=>by
  obtain⟨⟨g,d⟩,⟨o,w,t,k⟩,_⟩:=st;have l :b=e∨b=a:=by simpa using c
  rcases l with z|z
  . rw[z];show⟨_,d,λv q=>nomatch q⟩
  rw[z];show⟨o,w,λv q=>by rw[k]at q;cases q⟩
 keep:=λi h m st k=>let⟨⟨g,d⟩,j,f⟩:=st;⟨⟨g,k e (by simp) _ d⟩,j.at λo q=>k a (by simp) o q,f⟩
 item:=by
  intro X r hw p t i F s G H E I j st v;subst r hw p;obtain⟨⟨g,d⟩,hit,f⟩:=st;obtain⟨S,x,k,y⟩:=v;obtain⟨Q,B,A,P⟩:=I.list k;obtain⟨u,n,R⟩:=B.get y;have D:=WR d;have M:a<s.heap.objs.size:=by obtain⟨_,q,_⟩:=hit;show WR q
  show wpAny_pyNext_enum_item d hit A.isList (x:=u) (by simpa using n) f λm w N J C O=> ?_;show⟨_,rfl,aaP (s:={s with heap:=m,toks:=s.toks+1}) w λn L C=> ?_⟩;have w:n.get? s.heap.objs.size=some {cls:= .type "tuple",data:= .seq #[.int i s.toks,u]}:=(C.2 _ (YH D)).trans J
  have new:dw X.prog X.w (upd H s.heap.objs.size (.tup [.int (i:Nat),x])) n s.heap.objs.size (.tup [.int (i:Nat),x]):=
   ⟨by change 2<=sizeLine;decide,[.int i s.toks,u],.cons ⟨_,rfl⟩ (.cons R .nil),⟨_,w,rfl,_,rfl⟩⟩
  have w:Inv X F G (upd H s.heap.objs.size (.tup [.int (i:Nat),x])) {s with heap:=n,toks:=s.toks+1}:=
   I.nW (ch:=[e,a]) (λb ob c q=>(C.2 b (λz=>c (by simp[z]))).trans (O b ob (λz=>c (by simp[z])) (λz=>c (by simp[z])) q)) j (Wu _) new
  show⟨.ref s.heap.objs.size,_,w,rfl,⟨_,x,rfl,I.dD.fresh (Wu _),rfl,λJ n=>by rw[I.Dk n k];show y⟩,⟨⟨u,?_⟩,N.at λo q=>(C.2 a (Yt f)).trans q,f⟩,λb c=> ?_⟩;have w:((i+1:Nat):Int)=(i:Int)+1:=by lia
  rw[w];show L
  have w :b<s.heap.objs.size:=by
   have l :b=e∨b=a:=(by simpa using c);rcases l with z|z
   rw[z];show D;rw[z];show M
  rw[aF (W6 w)];show(j b c).1
 done:=by intro X r hw p t i F s G H E I j st v;subst r hw p;obtain⟨⟨g,d⟩,hit,f⟩:=st;obtain⟨S,k,y⟩:=v;obtain⟨Q,B,A,P⟩:=I.list k;obtain⟨k,e,w,f,g,l⟩:=j a (by simp);have w:=B.length;show wpAny_pyNext_enum_end (I.ok.hd t) d hit A.isList (by simp;lia) λm w=>⟨rfl,I.turned (t' :=s.toks) (λb o c q=>w b o c q) k e f g l⟩
 self:=λA i s Q E st h=>let⟨⟨_,d⟩,_⟩:=st;aag d h
def RL(K:ay)(c:TA):TI:=λf H R=>c f H λd b=>∃a e,d=[.ref a]/\bG K b a e/\R (Nr K a) b
theorem g4{kk:Nat}(d:Gl X "enumerate")(f:X.mg "enumerate" =none)(c:PA X [e] H)(g:autoParam (starEach [e] X.env=[(false,eval e X.env)]) cL._auto_6):
 PI X (.Tuple q kk I) (.Call (.Name "enumerate" p) [e] [] z) (RL X.K H):=by
 intro e s q H R I h;show Call_ (qV I d f boot_enumerate (Ys (dz (c e s q H _ I h) λp a⟨R,z,X,j,i⟩=> ?_) g rfl));obtain⟨I,xs,e,c,q⟩:=i;subst e;cases j with
 |cons r e=>
  cases e;cases r;obtain⟨d,f,H,e⟩:=X.list c;show call_enumerate_list H.isList λd e hit f c=>aag e ?_;have H:=X.kept (t' :=a.toks) c;show⟨a.heap.objs.size+1,[a.heap.objs.size+1,a.heap.objs.size],_,_,z,rfl,H,Jg I (a.heap.objs.size+1) a.heap.objs.size,⟨⟨.none,e⟩,hit,Nat.succ_ne_self _⟩,λb c=> ?_,q⟩;have H :b=a.heap.objs.size+1∨b=a.heap.objs.size:=by simpa using c
  have e:a.heap.objs.size<=b:=by
   rcases H with z|z
   rw[z];show Nat.le_add_right _ _;rw[z];show Wu _
  show X.I1 e (X.dD.fresh e)
end L2
section
namespace TR
open PySem PyProof.Rows
end TR
end
section
namespace TL
open PySem PySem.Builtin PySem.Builtin.Str PySem.StrLaws
abbrev tl(x:Str):ah Nat:=x.cps.toList
theorem eS x:x.length=(tl x).length:=by simp[tl,Str.length]
theorem q4(h:tl x=tl y):x=y:=Str.ext' (Array.toList_inj.mp h)
theorem Ah x y:tl (x++y)=tl x++tl y:=by change(x++y).cps.toList=_;rw[Str.cps_append,Array.toList_append]
theorem cN s:tl (Str.ofString s)=s.toList.map Char.toNat:=PyProof.Rows.signs_ofString s
def pre(S l:ah Nat):Bool:=l.take S.length==S
noncomputable def par (S:ah Nat):ah Nat->ah Nat->az (ah Nat×ah Nat)
 |_,[]=>none
 |acc,c::r=>if pre S (c::r)=true then some (acc,(c::r).drop S.length)else par S (acc++[c]) r
def DN(S:ah Nat):ah (ah Nat)->ah Nat
 |[]=>[]
 |[p]=>p
 |p::q::r=>p++(S++DN S (q::r))
theorem HR y:∀r,tl (Str.join y r)=DN (tl y) (r.map tl)
 |[]=>rfl
 |[_]=>rfl
 |x::z::r=>by change tl (x++y++Str.join y (z::r))=tl x++(tl y++DN (tl y) ((z::r).map tl));rw[Ah,Ah,HR y (z::r),Yc]
theorem Nt y a:Txt.join y a=Str.join y a:=glued_eq_join y a
end TL
end
namespace L2
open PySem PySem.Spec PyProof.Rows
theorem qe(h:bW (a.map V.str) b):StrsAre b a:=by
 induction a generalizing b with
 |nil=>cases h;show .nil
 |cons y a b=>
  cases h with
  |cons r t=>obtain⟨k,rfl⟩:=r;show .cons y k (b t)
section
variable{X:Cx}{a:ah (ai×aV)}{b:St}{H:Hp}{s:aq}{Q:VK}
end
section
variable{X:Cx}
theorem Nu:QK X "str.join" (λx b H Q=>∃c p,∃a,x= .str c/\b=[.ref p]/\(bG X.K H p (a.map V.str)∨dO X.K H p (a.map V.str))/\
 (a.map (·.length)).sum+a.length*c.length<=16777216/\Q (.str (Txt.join c a)) H):=by
 intro n s r H x b v o Q I d k h;obtain⟨c,p,a,rfl,rfl,b,Q,h⟩:=h;obtain⟨t,rfl⟩:=d;cases k with
 |cons p k=>
  cases k;cases p;rcases b with b|b
  obtain⟨a,r,⟨o,n,d,p,_,x⟩,_⟩:=I.list b;show PyProof.Rows.join_list (items:=a.toArray) ⟨o,d,p,n,x⟩ (by rw[abB];show qe r) Q λc k=>⟨.str _,H,I.tok k,⟨c,rfl⟩,h⟩;obtain⟨a,r,p,_⟩:=I.tuple b;show PyProof.Rows.join_tuple (items:=a.toArray) p (by rw[abB];show qe r) Q λc k=>⟨.str _,H,I.tok k,⟨c,rfl⟩,h⟩
theorem lJ:fz X (.type "int") (λc H Q=>∃a n,c=[.str a]/\PySem.intText? a=some n/\a.length<=640/\Q (.int n) H):=by
 intro d s e H c t Q I b h;obtain⟨a,n,rfl,Q,c,h⟩:=h;cases b with
 |cons a b=>cases b;obtain⟨t,rfl⟩:=a;show W.KIN.call_text Q c ⟨.int n,H,I.tok _,⟨_,rfl⟩,h⟩
end
section
variable{X:Cx}{o e:bx}{a b:TE}
def TV(r:V->ah V->Hp->VK->Prop)(a b:TE):TE:=λc H Q=>a c H λx d=>(∃f,x= .str f)/\b c d λy e=>r x [y] e Q
theorem RM{id:aC}(p:Slot "str" c id)(q:typeOf (.builtin id)=pure (.type "method_descriptor"))(rule:QK X id r)(m:PE X o a)(k:PE X e b)
 (n:autoParam (starEach [e] X.env=[(false,eval e X.env)]) cL._auto_6) (j:autoParam (attributeBase o c X.env (eval o X.env)=eval o X.env) cL._auto_6) (l:autoParam ((H.endLine==I.line)=true) cL._auto_6):
 PE X (.Call (.Attribute o c H) [e] [] I) (TV r a b):=by
 intro c s d H Q I i;show Call_method1 j n l (dz (m s d H _ I i) λv r⟨x,g,h,f,c⟩=> ?_);obtain⟨⟨H,rfl⟩,c⟩:=c;obtain⟨t,rfl⟩:=_root_.id f;show⟨"str",_,F.plainAttrs_str,p,q,abL _ _ _,(λ_ e=>nomatch e),Zo rfl (aau (ZY ?_))⟩;show dz (k r d g _ h c) λu l⟨y,H,I,j,i⟩=>aaW (rule l d H _ [y] _ [u] Q I f (.cons j .nil) i)
theorem Nv(j:PE X o a)(h:PE X e b)(k:autoParam (starEach [e] X.env=[(false,eval e X.env)]) cL._auto_6)(g:autoParam (attributeBase o "join" X.env (eval o X.env)=eval o X.env) cL._auto_6)(i:autoParam ((f.endLine==l.line)=true) cL._auto_6):
 PE X (.Call (.Attribute o "join" f) [e] [] l) (TV (λx xs H Q=>∃d p,∃c,x= .str d/\xs=[.ref p]/\(bG X.K H p (c.map V.str)∨dO X.K H p (c.map V.str))/\
  (c.map (·.length)).sum+c.length*d.length<=16777216/\Q (.str (Txt.join d c)) H) a b):=
 RM F.slot_str_join F.type_str_join Nu j h k g i
end
end L2
namespace L2
open PySem PySem.Spec PyProof.Rows
section
variable{X:Cx}
theorem jU:pR X (compareOp .In) (λx y H Q=>∃c z,x= .str ⟨#[c]⟩/\y= .str z/\Q (.bl (decide (c∈z.cps.toList))) H):=by intro q s t H x y v u Q I a b h;obtain⟨c,z,rfl,rfl,q⟩:=h;obtain⟨t,rfl⟩:=a;obtain⟨a,rfl⟩:=b;show PyProof.Rows.in_str (cE I q (StrLaws.found_one z c).symm)
end
theorem IsPart.raw(p:IsPart v o):∃l,v=partValue l/\l.map (·.1)=o:=by
 cases p with
 |none=>show⟨none,rfl,rfl⟩
 |int i t=>show⟨some (i,t),rfl,rfl⟩
noncomputable def DP (n d:Nat):az Int->Int
 |none=>(d:Int)
 |some i=>max 0 (min (if i<0 then i+(n:Int)else i) (n:Int))
theorem DQ n d o:DP n d o=((HT.eK n d o:Nat):Int):=by
 cases o with
 |none=>rfl
 |some v=>
  change max (0:Int) (min (if v<0 then v+(n:Int)else v) (n:Int))=(((if v<0 then(v+(n:Int)).toNat else min v.toNat n):Nat):Int);by_cases d:v<0;simp only[Wt d]
  lia
  simp only[Wn d]
  lia
theorem Jh a b n:Builtin.Str.strSliceIndices a b 1 n=sliceRange (DP n 0 a) (DP n n b) 1:=by
 have n:((1:Int)>0)=True:=by simp
 cases a<;>cases b<;>first
  |rfl
  |(simp only[Builtin.Str.strSliceIndices,DP,n,Za];rfl)
  |simp[Builtin.Str.strSliceIndices,DP]
theorem TX a b n:Builtin.Str.strSliceIndices a b 1 n=(List.range (HT.eK n n b-HT.eK n 0 a)).map (λk=>HT.eK n 0 a+k):=by
 rw[Jh,DQ,DQ];generalize HT.eK n 0 a=p;generalize HT.eK n n b=q;simp only[sliceRange,show((1:Int)>0)=True from by simp,Za];by_cases a:(p:Int)<q;have b:(((q:Int)-p+1-1)/ 1).toNat=q-p:=by first|lia|(simp;done)|(simp;lia)
 simp only[a,Za,b];show Xv λk _=> ?_
 lia
 have:q-p=0:=by lia
 simp[a,this]
def DR(z:Str)(lo a:az Int):Str:=
 ⟨((z.cps.toList.drop (HT.eK z.length 0 lo)).take (HT.eK z.length z.length a-HT.eK z.length 0 lo)).toArray⟩
theorem oQ z lo a:StrLaws.sliceText z lo a=DR z lo a:=by
 have b:HT.eK z.length 0 lo<=z.length:=HT.F5 _ _ (Xb _) _;have e:HT.eK z.length z.length a<=z.length:=HT.F5 _ _ (Wu _) _;have c:HT.eK z.length 0 lo<=max (HT.eK z.length 0 lo) (HT.eK z.length z.length a):=Nat.le_max_left _ _;have d:=Nat.max_le.mpr ⟨b,e⟩;have b:max (HT.eK z.length 0 lo) (HT.eK z.length z.length a)-HT.eK z.length 0 lo=HT.eK z.length z.length a-HT.eK z.length 0 lo:=by rw[<- Nat.sub_max_sub_right,Nat.sub_self,Nat.zero_max]
 have e:Builtin.Str.strSliceIndices lo a 1 z.length=
  Builtin.Str.strSliceIndices (some ((HT.eK z.length 0 lo:Nat):Int)) (some ((max (HT.eK z.length 0 lo) (HT.eK z.length z.length a):Nat):Int)) 1 z.length:=by
  rw[StrLaws.strSliceIndices_plain c d,b,TX]
 have f:StrLaws.sliceText z lo a=
  StrLaws.sliceText z (some ((HT.eK z.length 0 lo:Nat):Int)) (some ((max (HT.eK z.length 0 lo) (HT.eK z.length z.length a):Nat):Int)):=by
  unfold StrLaws.sliceText;rw[e]
 rw[f,StrLaws.sliceText_nat z c d,b];rfl
theorem DS z lo a:(DR z lo a).length<=z.length:=by change(((z.cps.toList.drop (HT.eK z.length 0 lo)).take (HT.eK z.length z.length a-HT.eK z.length 0 lo)).toArray).size<=z.cps.size;rw[WU,Xo,Xu,Yz];show Xi (aap _ _) (abX _ _)
def RN:V->az Int->az Int->Hp->VK->Prop:=λx lo a H Q=>∃z,x= .str z/\z.length<=sizeLine/\Q (.str (DR z lo a)) H
theorem KQ:QJ X RN:=by
 intro e s i H x v q t lo c d Q I a b f g h;obtain⟨z,rfl,d,q⟩:=h;obtain⟨t,rfl⟩:=a;obtain⟨os,h,a,c⟩:=b;obtain⟨l,rfl,rfl⟩:=IsPart.raw f;obtain⟨u,rfl,rfl⟩:=IsPart.raw g;show⟨"str",_,F.slot_str_getitem.lookup,abL _ _ _,?_⟩;show wpAny_getItem_str_slice (l:=l) (u:=u) (st:=none) ⟨os,h,a,c⟩ rfl ?_;have a:(StrLaws.sliceText z (l.map (·.1)) (u.map (·.1))).length<=sizeLine:=by rw[oQ];show Xi (DS z _ _) d
 rw[<- oQ]at q;unfold StrLaws.sliceText at q a
 change Made.post (if((1:Int)==1&&(Builtin.Str.strSliceIndices (l.map (·.1)) (u.map (·.1)) 1 z.length).length==z.length)=true then Made.val (.str z t)
  else Made.str ⟨((Builtin.Str.strSliceIndices (l.map (·.1)) (u.map (·.1)) 1 z.length).filterMap (z.cps[·]?)).toArray⟩) (EP X e i Q) s
 by_cases c:((1:Int)==1&&(Builtin.Str.strSliceIndices (l.map (·.1)) (u.map (·.1)) 1 z.length).length==z.length)=true;rw[Wt c]at q|-;show⟨.str z,H,I,⟨t,rfl⟩,q⟩;rw[Wn c]at q a|-;show⟨a,.str _,H,I.tok _,⟨_,rfl⟩,q⟩
end L2
namespace VM
open PySem PySem.W PySem.Calls PyProof.Rows
section
variable{a:aS}{w:aU}{A:bC}{E:ak->aq->Prop}{s:aq}{K:Frag}
end
end VM
namespace L2
open PySem PySem.Spec PyProof.Rows
end L2
namespace L2
open PySem PySem.Spec PyProof.Rows
end L2
namespace L2
open PySem PySem.Spec PyProof.Rows
abbrev TY:Kr:=λ_ _ _ _ _ _=>False
abbrev E0:XK:=λ_ _ _=>False
inductive RQ(K:ay)(x b:Str)(st:b7)(f:ai)(a:FuncData):Prop
 |mk (h:ak) (i:az ai) (kV g k:ak) (d:az ai) (c e:ak) (j:Array (az ak)) (_:a=W.fnOf x b (j8 st) (fy st) (bD st) .none kV g k d c e) (_:K.lookup f=some ⟨h,i,.func a,j⟩) (_:W.codeIn K c b=true):RQ K x b st f a
structure KR(K:ay)(x qual:Str)(st:b7)(f:ai)(fd:FuncData):Prop where
 ex:RQ K x qual st f fd
 kp:W.keepIn K (.ref f)=true
section
variable{P:aS}{w:aU}{K:ay}{b:Str->az ak}{a:aX}
theorem KR.binds{st:b7}(F:KR K x j st f h)
 (i:∀(kV d e:ak)(a:az ai)(b c:ak)(f:ah ak),f.length=g.length->bindArgs (W.fnOf x j (j8 st) (fy st) (bD st) .none kV d e a b c) ⟨f,[]⟩=pure (g.zip f)):Binds K h g []:=by
 obtain⟨h,j,kV,d,e,a,b,c,x,rfl,g,f⟩:=F.ex;show .all (i kV d e a b c)
theorem PZ{st:b7}{kV c d a b:ak}(l:K.lookup g=some ⟨i,j,.func (W.fnOf x e (j8 st) (fy st) (bD st) .none kV c d f a b),n⟩)
 (h:W.codeIn K a e=true) (k:W.keepIn K (.ref g)=true):KR K x e st g (W.fnOf x e (j8 st) (fy st) (bD st) .none kV c d f a b):=⟨⟨i,j,kV,c,d,f,a,b,n,rfl,l,h⟩,k⟩
end
section
variable{X:Cx}
theorem pv i(a:autoParam (X.N[i]? =some x) cL._auto_6)(d:autoParam (QF X.env.scope x) cL._auto_10)(c:autoParam ((x==("__debug__" :Str))=false) cL._auto_3)
 (b:autoParam ((x==("__classdict__" :Str))=false) cL._auto_3):PE X (.Name x e) (pY i):=O9 a d c b
theorem nX:fz X (.builtin "len") (λxs H Q=>∃b a,xs=[V.ref b]/\H b=some (.dK a)/\Q (.int a.length) H):=by intro q s c H xs u Q I r h;obtain⟨b,a,rfl,Q,q⟩:=h;obtain⟨u,rfl,b⟩:=vals1 r;cases b;show RA I (.inl Q) λt h b =>⟨.int a.length,H,b,⟨t,rfl⟩,q⟩
end
def aD(H a :Hp):Prop:=∀b o,H b=some o->a b=some o
theorem aD.refl H:aD H H:=λ_ _ h=>h
theorem aD.trans(a:aD H d)(b:aD d e):aD H e:=λc o h=>b c o (a c o h)
theorem aD.free(e:aD H a)(h:a l=Option.none):H l=Option.none:=by
 cases q:H l with
 |none=>rfl
 |some o=>rw[e l o q]at h;cases h
theorem aD.seq{K:ay}(e:aD H a)(h:bG K H b xs):bG K a b xs:=by
 rcases h with(h|⟨o,h⟩)|h
 show .inl (.inl (e _ _ h));show .inl (.inr ⟨o,e _ _ h⟩);show .inr h
section
variable{b:Type} [DecidableEq b]
theorem KS{k:b}(h:d7 a k=none):¬k∈a.map (·.1):=by intro m;obtain⟨p,c,e⟩:=Wy.mp m;have q:(a.any λd=>decide (d.1=k))=true:=X7.mpr ⟨p,c,WK e⟩;rw[jR,h]at q;show absurd q (by simp)
theorem tF{k:b}(h:d7 a k=some v):k∈a.map (·.1):=by
 have q:(a.any λe=>decide (e.1=k))=true:=by
  rw[jR,h]
  all_goals rfl
 obtain⟨p,a,e⟩:=X7.mp q;show Wy.mpr ⟨p,a,XT e⟩
theorem nY:∀{l:ah b}{k:b},l.Nodup->¬k∈l->(l++[k]).Nodup
 |[],k,_,_=>by simp
 |a::r,k,h,l=>by
  obtain⟨c,q⟩:=XF.mp h;show XF.mpr ⟨λm=> ?_,nY q λm=>l (WB.mpr (Or.inr m))⟩;rcases W0.mp m with q|q
  show c q;show l (WB.mpr (Or.inl (Xd.mp q).symm))
end
theorem dF{xs:ah V}{z:Int}{j:Nat}{v:V}(e:z=(j:Int))(h:xs[j]? =some v):oA xs z=some v:=by rw[e];show bJ h
end L2
end
section
namespace XL
open PySem PySem.Spec PyProof.Rows L2
open Builtin Builtin.ObjectAttr
inductive U1(h:aX)(C N:ai):Prop
 |mk (nm q bs sn sub ab col dd k0 k1 k2 k3 k5) (_:h.get? C=some (excClassObj nm q C N bs j9 true sn sub ab col dd k0 k1 k2 k3 k5 "Exception.__new__")):U1 h C N
structure XC(h:aX)(C N:ai)(mN:Str->az ak):Prop where
 cls:U1 h C N
 ns:h.Ns N mN
theorem XC.keeps(x:XC h C N mN)(k:∀b o,h.get? b=some o->a.get? b=some o):XC a C N mN:=by obtain⟨⟨n,q,bs,p,sub,b,a,c,g,i,j,l,m,e⟩,o,f,d,h,r⟩:=x;show⟨⟨n,q,bs,p,sub,b,a,c,g,i,j,l,m,k _ _ e⟩,o,f,d,k _ _ h,r⟩
section
variable{a:aS}{w:aU}{A:bC}{E:ak->aq->Prop}{h:aX}{g:Array GenState}{d:Drawn}{t:Nat}{os:OsState}
variable{C N x:ai}{c:Str->az ak}{f:Str}{v:ak}{e b:aC}
theorem P0{tk:Tok}(p:StoreFacts "Exception" j9 e b)(X:XC h C N c)(O:c f=none)(y:typeLookup (.type "Exception") f=pure none)
 (l:h.get? x=some i) (D:i.cls= .ref C) (I:i.dict=none) (P:∀m,i.data≠.cls m)
 (T:∀j Y,h.objs.size<j.objs.size->j.Ns1 h.objs.size (λZ=>if Z=f then some v else none)->j.get? x=some {i with dict:=some h.objs.size}->
   (∀k o,k≠x->h.get? k=some o->j.get? k=some o)->Q (.done (.ret .none)) ⟨j,g,d,Y,os⟩):
 wpAny (model a w) A (Builtin.«object.__setattr__» ⟨[.ref x,.str f tk,v],[]⟩) Q E ⟨h,g,d,t,os⟩:=by
 obtain⟨⟨xF,xN,bs,xO,sub,xg,xh,xj,xx,xA,xB,xC,xE,q⟩,L⟩:=X;have S:=p.passes (.ref x);unfold Builtin.«object.__setattr__»
 repeat(first
  |rw[refuse_eq]
  |(rw[refuseLoop_ref,S])
  |(with_reducible show Yv l ?_;rw[D])
  |with_reducible show wpAny_mroOf_exc q ?_
  |(with_reducible show Zb q L p.mro y ?_;rw[O])
  |wp_step)
 rw[I,Wn (by simp[typeHasDict])];split;rename_i z;cases z;split;rename_i m z;show absurd z (P m);have s:(h.push {cls:= .type "dict",data:= .dict #[]}).get? x=some i:=Wv _ l;have u:=W6 (WR l);show Wm (wpAny_alloc' (Wm (wpAny_update' s (Ww ?_))));have U:∀xG :aV,({i with dict:=some h.objs.size}:aV).isFreed=false:=λ_=>by have K:=(Heap.get?_some_iff.mp l).2;obtain⟨xJ,xK,W,xM⟩:=i;cases W<;>first|rfl|show K
 have V:((h.push {cls:= .type "dict",data:= .dict #[]}).update x λo=>{o with dict:=some h.objs.size}).get? x=some {i with dict:=some h.objs.size}:=
  Y6 _ s (U i)
 have G:((h.push {cls:= .type "dict",data:= .dict #[]}).update x λo=>{o with dict:=some h.objs.size}).get? h.objs.size=some {cls:= .type "dict",data:= .dict #[]}:=
  (Heap.get?_update_ne _ _ _ _ u.symm).trans (Heap.get?_push_at rfl rfl)
 have M:((h.push {cls:= .type "dict",data:= .dict #[]}).update x λo=>{o with dict:=some h.objs.size}).Ns h.objs.size (λ_=>none):=
  ⟨_,#[],_,G,rfl,λxq J=>absurd J (by simp),λ_=>rfl⟩
 unfold storeInDict newKeyGuard;show Wm (Ww (Wm (wpAny_nsSet1 (Heap.Ns1.of_empty M) λj n r=> ?_)));obtain⟨xH,xu,xr,R,H,F⟩:=n.count (Within.cons f v Within.nil);show Wm (wpAny_lookBehind R (by rw[H];show pastItsLine_dict (Xi F (by rw[WG,Xj,Wx];lia))) ?_)
 wp_walk
 show T j _ n.lt n ((r.2 x u).trans V) λk o B z=> ?_;show(r.2 k (W6 (WR z))).trans ((Heap.get?_update_ne _ _ _ _ B).trans (Wv _ z))
theorem RT{tk:Tok}(j:StoreFacts "Exception" j9 e b)(X:XC h C N c)(r:c f=none)(p:typeLookup (.type "Exception") f=pure none)
 (n:h.get? x=some l) (m:l.cls= .ref C) (q:l.dict=none) (s:∀i,l.data≠.cls i)
 (u:∀i k,h.objs.size<i.objs.size->i.Ns1 h.objs.size (λy=>if y=f then some v else none)->i.get? x=some {l with dict:=some h.objs.size}->
   (∀l o,l≠x->h.get? l=some o->i.get? l=some o)->R (.ok (.ret .none)) ⟨i,g,d,k,os⟩):
 codeAny (model a w) A (.call (.builtin e) ⟨[.ref x,.str f tk,v],[]⟩) R ⟨h,g,d,t,os⟩:=by
 have l :=X;obtain⟨⟨I,J,bs,K,sub,y,R,z,D,E,F,G,H,o⟩,B⟩:=X;show codeAny_call_builtin j.slot.plain j.entry (wpAny_check_sa j o n m ?_);show P0 j l r p n m q s ?_;intro i k l o j m;show u i k l o j m
theorem T3(j:StoreFacts "Exception" j9 e b)(X:XC h C N c)(u:c "__setattr__" =none)(r:c f=none)(p:typeLookup (.type "Exception") f=pure none)
 (n:h.get? x=some l) (m:l.cls= .ref C) (q:l.dict=none) (s:∀i,l.data≠.cls i)
 (y:∀i k,h.objs.size<i.objs.size->i.Ns1 h.objs.size (λo=>if o=f then some v else none)->i.get? x=some {l with dict:=some h.objs.size}->
   (∀l o,l≠x->h.get? l=some o->i.get? l=some o)->Q () ⟨i,g,d,k,os⟩):
 wpAny (model a w) A (setAttr (.ref x) f v) Q E ⟨h,g,d,t,os⟩:=by
 have l :=X;obtain⟨⟨K,L,bs,M,sub,z,B,D,F,G,H,I,J,o⟩,Q⟩:=X;have X:=j.slot.bind (.ref x);unfold setAttr callSpecial? specialOf
 repeat(any_goals(first
  |assumption
  |(with_reducible show Yv n ?_;rw[m])
  |(with_reducible show Zb o Q j.mro j.slot.lookup ?_;rw[u])
  |wp_step))
 show RT j l r p n m q s λi k o Q u X=> ?_
 repeat(any_goals(first|assumption|wp_step))
 show y i k o Q u X
theorem T4(H:StoreFacts "Exception" j9 e b)(X:XC h C N c)(Y:c "__setattr__" =none)(V:c f=none)(O:typeLookup (.type "Exception") f=pure none)
 (xh:x≠C) (n:h.get? x=some i) (R:i.cls= .ref C) (j:i.dict=some l) (xq:l≠x) (W:∀J,i.data≠.cls J) (S:h.Ns1 l mA) (hw:Within mA xr) (xg:xr.length<=sizeLine)
 (Z:∀m p,m.Ns1 l (λG=>if G=f then some v else mA G)->m.get? x=some i->
   (∀k o,k≠l->k≠x->h.get? k=some o->m.get? k=some o)->Q () ⟨m,g,d,p,os⟩):
 wpAny (model a w) A (setAttr (.ref x) f v) Q E ⟨h,g,d,t,os⟩:=by
 obtain⟨⟨xX,x6,bs,x8,sub,xH,xO,xR,xS,xT,xU,xV,xW,P⟩,U⟩:=X;show store_attr H P U Y V O xh (mA:=mA) ⟨i,n,R,W,.inr ⟨l,j,xq,S⟩⟩ (λm p I xj xB=> ?_) hw xg;obtain⟨D,u,q,r,F,xx⟩:=xB i n;have K:D=i:=by obtain⟨xC,xE,xF,xG⟩:=D;obtain⟨xJ,xK,xM,xN⟩:=i;have:=xx l j;simp only at q r F this j;subst q r F this;rw[j]
 subst K;obtain⟨xZ,y,_,_,xA⟩:=I;rw[u]at y;cases y;rcases xA with⟨z,_⟩|⟨xQ,z,_,T⟩
 rw[j]at z;cases z;rw[j]at z;cases z;show Z m p T u λk o L M z=>xj k o M (λxY xP s B xu=>by rw[n]at s;cases s;rw[j]at B;cases B;show L xu) z
end
end XL
end
section
namespace XL
open PySem PySem.Spec PyProof.Rows L2
structure MR(h:aX)(C e dx:ai)(vs:Array ak)(f1 f2:Str)(ua ub:ak):Prop where
 obj:h.get? e=some {cls:= .ref C,dict:=some dx,data:= .fields vs}
 ne:dx≠e
 at_:∃mA,h.Ns1 dx mA/\mA f1=some ua/\mA f2=some ub
section
variable{P:aS}{w:aU}{K:ay}
theorem KW{st:b7}
 (xh:KR K yJ ya st L xC) (S:iS ["self",b,c] ["self",b,c] (bD st)) (R:∀y∈(["self",b,c]:ah Str),(bD st).names.lookup y=some .local) (r:Binds K xC ["self",b,c] [])
 (xJ:fy st=[.Assign [.Attribute (.Name "self" yk) l yl] (.Name b ym) yo,.Assign [.Attribute (.Name "self" yq) p yr] (.Name c yt) yu])
 (xO:p≠l) (xQ:(b==("__debug__" :Str))=false) (xR:(c==("__debug__" :Str))=false)
 (I:StoreFacts "Exception" j9 yH yE) (T:mN "__setattr__" =none) (xF:mN l=none) (xG:mN p=none) (yc:typeLookup (.type "Exception") l=pure none) (yd:typeLookup (.type "Exception") p=pure none)
 (xT:xg.depth<recursionLimit) (v:K.In s.heap) (xZ:s.heap.NoLimit) (X:XC s.heap C N mN) (Q:e≠C)
 (E:s.heap.get? e=some {cls:= .ref C,data:= .fields vs})
 (xS:∀i tk J,(∀f o,f≠e->s.heap.get? f=some o->i.get? f=some o)->s.heap.get? J=none->MR i C e J vs l p d h->xj (.ok (.ret .none)) ⟨i,s.gens,s.drawn,tk,s.os⟩):
 codeAny (model P w) xg (.call (.ref L) ⟨[.ref e,d,h],[]⟩) xj s:=by
 obtain⟨yz,yC,kV,yx,yF,yp,xx,yw,yD,rfl,x6,xM⟩:=xh.ex;have xK:=r s [.ref e,d,h] v rfl;show codeAny_call_function xT (v _ _ x6) rfl S.co S.gen rfl (W.codeRec_of v xM) (xK _ _ _ _ ?_);show aaK S.kind (λy F=> .inl (R y.1 (aax F).1)) λa xN yG z=> ?_;subst xN;show⟨xZ.keeps z.toInCall.keep,codeAny_func ?_⟩;obtain⟨V,tk,rfl,n⟩:=z.done;have xP:=z.toInCall.ns;have fr:=z.toInCall.fresh;generalize M:(newEnv (bD st) s.heap.objs.size mainGlobals (cellsFrom (s.heap.objs.size+1) (bD st).names []) (ya++ ".<locals>.") (some L) xx none builtinsNs)=a at*;have t:a.scope.kind= .function:=by rw[<- M];show S.kind
 have g:∀y∈(["self",b,c]:ah Str),a.kindOf y=some .local:=λy F=>by rw[<- M];show R y F
 have H:=kY (kindOf:=a.kindOf) (vs:=[Value.ref e,d,h]) (i:=0) (m:=λ_=>none) S.nd rfl rfl (g _ (by simp));have Y:=kY (kindOf:=a.kindOf) (vs:=[Value.ref e,d,h]) (i:=1) (m:=λ_=>none) S.nd rfl rfl (g b (by simp));have Z:=kY (kindOf:=a.kindOf) (vs:=[Value.ref e,d,h]) (i:=2) (m:=λ_=>none) S.nd rfl rfl (g c (by simp));have k:V.Ns a.locals (bindL a.kindOf ((["self",b,c]:ah Str).zip [Value.ref e,d,h]) λ_=>none):=xP;generalize bindL a.kindOf ((["self",b,c]:ah Str).zip [Value.ref e,d,h]) (λ_=>none)=m at H Y Z k;have j:=Nat.lt_of_le_of_lt fr k.lt;have x:=WR E;have x8:a.locals≠e:=λq=>by rw[q]at fr;show absurd (W4 x fr) (X9 _)
 rw[xJ];show aan (Zg ?_);show aam (YM t (g b (by simp)) k Y ?_) xQ;show aam (YM t (g _ (by simp)) k H ?_) (by decide);show T3 I (X.keeps n) T xF yc (n _ _ E) rfl rfl (λxu q=>by cases q) λi yI yK yi yj u=> ?_;have U:i.Ns a.locals m:=by obtain⟨o,B,A,q,G⟩:=k;show⟨o,B,A,u _ _ x8 q,G⟩
 have xq:XC i C N mN:=by obtain⟨⟨x9,q,bs,yb,sub,xr,xA,xB,xU,xV,xW,xX,xY,xH⟩,o,B,A,D,O,G⟩:=X;show⟨⟨x9,q,bs,yb,sub,xr,xA,xB,xU,xV,xW,xX,xY,u _ _ Q.symm (n _ _ xH)⟩,o,B,A,u _ _ (λq=> ?_) (n _ _ D),O,G⟩;rw[q,E]at D;cases D;cases O
 show aan (Zg ?_);show aam (YM t (g c (by simp)) U Z ?_) xR;show aam (YM t (g _ (by simp)) U H ?_) (by decide);show T4 I xq T xG yd Q yj rfl rfl (λq=>by rw[q]at j;show absurd (ZN j x) (X9 _)) (λxu q=>by cases q) yi (Within.cons l d Within.nil) (by rw[WG,Xj,Wx];lia) λxE ye yf yg yh=> ?_;show Zw ?_;show xS xE ye V.objs.size (λf o r q=>yh f o ?_ r (u f o r (n f o q))) (Heap.get?_none_of_le (Zn j)) ⟨yg,λq=>by rw[q]at j;show absurd (ZN j x) (X9 _),_,yf,by simp[xO.symm],by simp⟩;show W6 (ZN (WR q) j)
end
end XL
end
section
namespace XL
open PySem PySem.Spec PyProof.Rows L2
structure Ow(fs:ah ai)(h:aX)(e:ai)(oe:aV)(old:az ai)(fl:ak)(h' :aX)(T' :ai):Prop where
 keep:∀b o,b∉fs->b≠e->old≠some b->h.get? b=some o->h'.get? b=some o
 slot:∀b o,b∈fs->h.get? b=some o->∃sl,h'.get? b=some {o with slots:=sl}
 exc:h'.get? e=some (oe.mapFields (·.setIfInBounds 1 (.ref T')))
 new:h.objs.size<=T'
 tr:∃oT ts,h'.get? T' =some oT/\oT.data= .fields ts/\ts[3]? =some fl
section
variable{M:Model}{A:bC}{E:ak->aq->Prop}{s:aq}{b:Env}{a:ah Env}{f:aX}{L e:ai}{d:aV}{c:Array ak}
theorem apart(h:s.heap.FunFrames f l)(g:s.heap.get? e=some d)(b:d.data= .fields c):e∉qT l:=λm=>by obtain⟨_,o,a,i⟩:=h.mem m;rw[g]at a;cases a;show i c b
theorem HS{head:ak}(o:A.frames=some (b::a))(q:s.heap.FunFrames f (b::a))(l:b.frame=some L)
 (h:s.heap.get? e=some d) (k:d.data= .fields c) (p:1<c.size)
 (t:∀j g,Ow (qT (b::a)) s.heap e d none (rawInt L) j g->Q () {s with heap:=j}):
 wpAny M A (do let i <- frameOf b;let j <- entryPlaceOf L n;let g <- EntryCells.newEntry head i .none (rawInt L) .none j;setField (.ref e) 1 g) Q E s:=by
 have n:=apart q h k;show Wm (wpAny_frameOf_fun o q l λm i=>Wm (wpAny_entryPlaceOf λj Q=> ?_));unfold EntryCells.newEntry newFields;show Wm (Xp ?_ (Q.sizeOk5 _ _ _ _ _));have l:=(i.2.1 e n).trans h;generalize q:({cls:= .type "traceback",data:= .fields ([head,.ref L,.none,rawInt L,.none]++(if j.isEmpty then List.replicate 6 Value.none else j)).toArray}:aV)=h;show Y5 (Wv h l) k p ?_;have Q:=YH (WR l);have r:h.isFreed=false:=by rw[<- q];rfl
 show t _ m.objs.size ⟨λg o j p _ z=> ?_,λg o j z=> ?_,?_,Z7 i.1.symm,h,_,?_,by rw[<- q],?_⟩;rw[Yu _ _ (Yt p)];show Wv _ ((i.2.1 g j).trans z);obtain⟨p,q⟩:=i.2.2 g o z;show⟨p,?_⟩;rw[Yu _ _ (show e≠g from λq=>n (by rw[q];show j))];show Wv _ q;show Y6 _ (Wv h l) (Zy (YD k _));rw[Yu _ _ (Yt Q)];show WH m r;rfl
def Tr(h:aX)(e:ai)(c:Array ak)(f:ak)(b:az ai):Prop:=
 (b=none/\c[1]? =some .none)∨∃T a d,b=some T/\c[1]? =some (.ref T)/\T≠e/\h.get? T=some a/\a.data= .fields d/\d[3]? =some f
theorem P1(u:A.frames=some (b::a))(t:s.heap.FunFrames f (b::a))(r:b.frame=some L)(h:∀T,g=some T->f.get? T=none)
 (m:s.heap.get? e=some d) (k:d.data= .fields c) (h:Tr s.heap e c .none g)
 (v:∀j p,Ow (qT (b::a)) s.heap e d g (rawInt L) j p->Q () {s with heap:=j}):wpAny M A (noteFrame (.ref e) b) Q E s:=by
 unfold noteFrame;simp only[r];rcases h with⟨rfl,i⟩|⟨T,n,B,rfl,i,Q,N,l,g⟩
 show Wm (Yl m k i ?_);rw[Wn (by decide)];show HS u t r m k (Xz.mp i).1 v;show Wm (Yl m k i ?_);rw[Wt (show(Value.ref T !=Value.none)=true from by simp)];show Wm (Yl N l g ?_);rw[Wn (show¬((Value.none==rawInt L)=true)from by simp[rawInt])];show Wm (Y5 N l (Xz.mp g).1 ?_);have n:∀g,g≠T->(s.heap.update T (Obj.mapFields (·.setIfInBounds 3 Value.none))).get? g=s.heap.get? g:=λg h=>Yu _ _ (Yt h);have y:=apart t N l;have w :=t.of_keeps λg o z x=>⟨o,(n g (λq=>by rw[q,N]at z;cases z;show x B l)).trans z,rfl⟩;show HS (s:={s with heap:=s.heap.update T (Obj.mapFields (·.setIfInBounds 3 Value.none))}) u w r ((n e (Yt Q)).trans m) k (Xz.mp i).1 λj p N=> ?_;show v j p ⟨λg o h Q i z=>N.keep g o h Q (by simp) ((n g (λq=>i (by rw[q]))).trans z),λg o h z=>N.slot g o h ((n g (λq=>y (q▸h))).trans z),N.exc,?_,N.tr⟩;have:=N.new;rw[Heap.size_after_update]at this;show this
theorem uU(l:s.heap.get? e=some d)(k:d.data= .fields c)(g:c[1]? =some (.ref T))(j:T≠e)
 (h:s.heap.get? T=some o) (f:o.data= .fields n) (i:n[3]? =some z)
 (m:∀a,(∀b o,b≠T->s.heap.get? b=some o->a.get? b=some o)->Tr a e c .none (some T)->Q () {s with heap:=a}):wpAny M A (setFlight (.ref e) none) Q E s:=by
 have a:=(Xz.mp i).1;unfold setFlight;show Wm (Yl l k g ?_);rw[Wt (show(Value.ref T !=Value.none)=true from by simp)];show Y5 h f a (m _ (λb o i z=>(Yu _ _ (Yt i)).trans z) (.inr ⟨T,_,_,rfl,g,j,Y6 _ h (Zy (YD f _)),YD f _,by simp[a]⟩))
end
end XL
end
section
namespace XL
open PySem PySem.Spec PyProof.Rows L2
inductive RV(C:ai)(d e:Str)(s:aq)(a :Hp)(b:ai)(k:Int)(p:Nat)(c :aq):Prop
 |mk (dx vs ua ub old) (_:MR c.heap C b dx vs d e ua ub) (_:RelV (.int k) ua) (_:RelV (.int p) ub) (_:s.heap.get? dx=none) (_:a dx=none) (_:Tr c.heap b vs .none old) (_:∀T,old=some T->s.heap.get? T=none/\a T=none/\T≠dx):RV C d e s a b k p c
structure Nx(P:aS)(w:aU)(C:ai)(f1 f2:Str)(fs:ah ai)(H:Hp)(s:aq)(H' :Hp)(ea:ai)(k:Int)(p:Nat)(s' :aq):Prop where
 os:s'.os=s.os
 bare:AllBare s'.gens
 un:Un fs [] H H' s.heap s'.heap
 dD:lG P w H' s'.heap
 new:s.heap.get? ea=none/\H' ea=none
 x:RV C f1 f2 s H' ea k p s'
def KX(P:aS)(w:aU)(C:ai)(c d:Str):Kr:=λf H s E e s' =>∃b k p a,e= .ref b/\Nx P w C c d (qT f) H s a b k p s'/\E (.int k 0) (some p) a
theorem HV{fs:ah ai}(u:Un fs [] H d h c):∀{l},(∀b∈qT l,b∈fs/\H b=none)->h.FunFrames a l->c.FunFrames a l
 |[],_,_=>True.intro
 |env::r,c,l=>by
  obtain⟨H,⟨L,o,a,d,e,h⟩,f⟩:=l;have l:L∈qT (env::r):=by unfold qT;rw[YX,a];show WD
  obtain⟨r,q⟩:=u.slot L o e (c L l).2 (c L l).1 (by simp);show⟨H,⟨L,_,a,d,q,h⟩,HV u (λb l=>c b ?_) f⟩;unfold qT;rw[YX,a];show Wz _ l
section
variable{X:Cx}{pins:ah (ai×aV)}{a:L2.St}{H1 H' :Hp}{s1 s' :aq}{C ea:ai}{f1 f2:Str}{k:Int}{p:Nat}
inductive RW(C:ai)(f1 f2:Str)(H' :Hp)(s1:aq)(ea:ai)(k:Int)(p:Nat)(b:ak)(a :aq):Prop
 |mk (dx vs ua ub T oT ts) (_:MR a.heap C ea dx vs f1 f2 ua ub) (_:RelV (.int k) ua) (_:RelV (.int p) ub) (_:s1.heap.get? dx=none) (_:H' dx=none) (_:vs[1]? =some (.ref T)/\T≠ea/\a.heap.get? T=some oT/\oT.data= .fields ts/\ts[3]? =some b) (_:s1.heap.get? T=none) (_:H' T=none) (_:T≠dx):RW C f1 f2 H' s1 ea k p b a
structure VN(X:Cx)(C:ai)(f1 f2:Str)(H1 H' :Hp)(s1:aq)(ea:ai)(k:Int)(p:Nat)(fl:ak)(RX :aq):Prop where
 os:RX.os=s1.os
 bare:AllBare RX.gens
 un:Un (qT X.stack) [] H1 H' s1.heap RX.heap
 dD:lG X.prog X.w H' RX.heap
 new:s1.heap.get? ea=none/\H' ea=none
 x:RW C f1 f2 H' s1 ea k p fl RX
theorem HW(I:Inv X pins a H1 s1)(u:X.stack=X.env::X.outer)(y:X.env.frame=some L)(F:Nx X.prog X.w C f1 f2 (qT X.stack) H1 s1 H' ea k p s')
 (D:∀b,VN X C f1 f2 H1 H' s1 ea k p (rawInt L) b->Q () b):wpAny (model X.prog X.w) X.A (noteFrame (.ref ea) X.env) Q E s' :=by
 obtain⟨v,Q,un,h,⟨i,j⟩,d,m,K,M,n,⟨t,s,E,r,O,P⟩,H,J,g,L,l,e⟩:=F;have A:X.A.frames=some (X.env::X.outer):=by rw[I.ok.frames,u]
 have f:=HV un (λb c=>⟨c,I.s9 b c⟩) I.stack;have B:s'.heap.FunFrames X.base (X.env::X.outer):=by rw[<- u];show f
 have f:∀b∈qT X.stack,∃o,s1.heap.get? b=some o:=λb c=>by obtain⟨_,o,q,_⟩:=I.stack.mem c;show⟨o,q⟩
 have G:∀b,s1.heap.get? b=none->b∉qT X.stack:=λb z c=>by obtain⟨o,q⟩:=f b c;rw[z]at q;cases q
 have x:∀T,n=some T->X.base.get? T=none:=λT F=>by
  cases q:X.base.get? T with
  |none=>rfl
  |some o=>have:=I.bk T o q;rw[(e T F).1]at this;cases this
 show P1 A B y x t rfl l λw T N=>D _ ?_;rw[<- u]at N;have fresh:∀b o,s'.heap.get? b=some o->b≠T :=λb o z q=>by rw[q]at z;show absurd (W4 (WR z) N.new) (X9 _)
 have keep:=N.keep;have u:∀b o,s1.heap.get? b=some o->b≠ea/\n≠some b:=λb o z=>⟨λq=>(by rw[q,i]at z;cases z),λq=>(by rw[(e b q).1]at z;cases z)⟩;have x:∀b∈qT X.stack,H' b=none:=λb c=>by obtain⟨o,q⟩:=f b c;show un.free b o q (I.s9 b c) (by simp)
 have f :=h.fresh N.new;obtain⟨I,D,y,A,B⟩:=N.tr;show⟨v,Q,⟨λb o z n c _=> ?_,λb o z n c _=> ?_,un.free,λb o z _=> ?_,un.sQ,un.pX,un.sR⟩,λF o z=> ?_,⟨i,j⟩,d,m.setIfInBounds 1 (.ref T),K,M,T,I,D,⟨?_,s,E,?_,O,P⟩,H,J,g,L,⟨?_,?_,y,A,B⟩,?_,f,?_⟩;show keep b o c (u b o z).1 (u b o z).2 (un.keep b o z n c (by simp));obtain⟨f,q⟩:=un.slot b o z n c (by simp);obtain⟨n,I⟩:=N.slot b _ c q;show⟨n,I⟩;obtain⟨f,q⟩:=un.there b o z (by simp);by_cases c:b∈qT X.stack;obtain⟨n,I⟩:=N.slot b _ c q;show⟨_,I⟩;show⟨f,keep b f c (u b o z).1 (u b o z).2 q⟩;have tk:∀c,H' c≠none->∀u,s'.heap.get? c=some u->w.get? c=some u:=λc b u q=>keep c u (λz=>b (x c z)) (λz=>b (z▸j)) (λz=>b (e c z).2.1) q;show(h F o z).mU (λc u b q=>tk c ?_ u q) (λ_ q=>q) λ_ _ q=>q;rcases b with b|b
 rw[b,z];simp;rw[b];simp;show N.exc;obtain⟨o,n,b,q,u⟩:=r;show⟨o,n,b,keep d o (G d g) s (λz=>(e d z).2.2 rfl) q,u⟩
 have b:1<m.size:=by
  rcases l with⟨_,z⟩|⟨_,_,_,_,z,_⟩
  show(Xz.mp z).1;show(Xz.mp z).1
 simp[b];show(fresh ea _ t).symm;cases q:s1.heap.get? T with
 |none=>rfl
 |some o=>obtain⟨f,I⟩:=un.there T o q (by simp);show absurd rfl (fresh T f I)
 obtain⟨o,_,_,q,_⟩:=r;show(fresh d o q).symm
end
end XL
end
section
namespace XL
open PySem PySem.Spec PyProof.Rows L2
section
variable{X:Cx}{d:ah (ai×aV)}{i:L2.St}{c f :Hp}{a h :aq}{C b:ai}{e g:Str}{k:Int}{p:Nat}
theorem KY(I:Inv X d i c a)(hex:X.ex=[])(l:X.stack=X.env::X.outer)(n:X.env.frame=some L)(F:Nx X.prog X.w C e g (qT X.stack) c a f b k p h)
 (r:∀j,Nx X.prog X.w C e g X.fs X.MX X.s8 f b k p j->Q () j):wpAny (model X.prog X.w) X.A (leaving X.env (.ref b)) Q E h :=by
 unfold leaving;show Wm (HW I l n F λj O=> ?_);obtain⟨G,E,un,H,⟨K,L⟩,t,V,S,U,T,m,o,⟨A,xg,J,Z,W,Y⟩,N,P,Q,D,⟨F,w,n,l,j⟩,x,v,y⟩:=O;show uU A rfl F w n l j λj keep R=>r _ ?_;have m:Un X.fs [] X.MX c X.s8.heap a.heap:=by rw[<- hex];show I.base
 have l:∀j,a.heap.get? j=none->X.s8.heap.get? j=none:=λj z=>by
  cases q:X.s8.heap.get? j with
  |none=>rfl
  |some o=>obtain⟨s,n⟩:=m.there j o q (by simp);rw[z]at n;cases n
 have neT:∀j o,a.heap.get? j=some o->j≠T:=λj o z q=>by rw[q,x]at z;cases z
 have O:∀j o,X.s8.heap.get? j=some o->j∉X.fs->j∉qT X.stack:=λj o z r n=>by
  rcases WB.mp (I.By j n)with q|q
  show absurd (q▸WR z) (Nat.not_lt.mpr I.ok.above);show r q
 show⟨G.trans I.os,E,⟨λj o z n r _=> ?_,λj o z n r _=> ?_,λj o z n _=> ?_,λj o z _=> ?_,λj B z=>un.sQ j B (m.sQ j B z),λj o u z=>un.pX j o u (m.pX j o u z),λj M z=> ?_⟩,λF o z=> ?_,⟨l b K,L⟩,t,V,S,U,some T,
  ⟨keep b _ (Yt w) A,xg,J,?_,W,Y⟩,N,P,l t Q,D,R,λE I=>by cases I;show⟨l T x,v,y⟩⟩
 have l:=m.keep j o z n r (by simp);show keep j o (neT j o l) (un.keep j o l (m.free j o z n (by simp)) (O j o z r) (by simp));obtain⟨Q,l⟩:=m.slot j o z n r (by simp);obtain⟨Q,r⟩:=un.any l (m.free j o z n (by simp)) (by simp);show⟨Q,keep j _ (neT j _ l) r⟩;obtain⟨s,l⟩:=m.there j o z (by simp);show un.free j s l (m.free j o z n (by simp)) (by simp);obtain⟨s,l⟩:=m.there j o z (by simp);obtain⟨n,r⟩:=un.there j s l (by simp);show⟨n,keep j n (neT j s l) r⟩;obtain⟨n,l⟩:=m.sR j M z;obtain⟨Q,r⟩:=un.sR j _ l;show⟨n++Q,by rw[r,abJ]⟩;show(H F o z).mU (λn u j q=>keep n u (λI=> ?_) q) (λ_ q=>q) λ_ _ q=>q;rcases j with j|j
 rw[<- j,I,v]at z;cases z;rw[I,v]at j;cases j;obtain⟨o,n,j,q,r⟩:=Z;show⟨o,n,j,keep t o (Yt y) q,r⟩
end
theorem bQ{K:ay}:
 gg (KX P w C a b) (uH (KX P w C a b) P w K e c N d g f F A I s H E) E:=by
 rintro A g P s e d I ⟨b,k,p,a,rfl,F,c⟩;show KY I rfl rfl rfl F λd P =>⟨b,k,p,a,rfl,P,c⟩
end XL
end
section
namespace XL
open PySem PySem.Spec PyProof.Rows L2
inductive U3(K:ay)(C:ai)(c d:Str):Prop
 |mk (N e:ai) (f:FuncData) (st:b7) (o a b:Str) (g h i j k l m n:Pos) (nm q bs sn sub ab col dd k0 k1 k2 k3 k5) (_:K.lookup C=some (excClassObj nm q C N bs j9 true sn sub ab col dd k0 k1 k2 k3 k5 "Exception.__new__")) (_:W.nsOkIn K N=true) (_:W.nsIn K N "__init__" =some (some (.ref e))) (_:W.nsIn K N "__setattr__" =some none) (_:W.nsIn K N "__getattribute__" =some none) (_:W.nsIn K N "__getattr__" =some none) (_:W.nsIn K N c=some none) (_:W.nsIn K N d=some none) (_:W.isFn K (.ref e)=true) (_:KR K "__init__" o st e f) (_:iS ["self",a,b] ["self",a,b] (bD st)) (_:(∀y∈(["self",a,b]:ah Str),(bD st).names.lookup y=some .local)) (_:Binds K f ["self",a,b] []) (_:fy st=[.Assign [.Attribute (.Name "self" g) c h] (.Name a i) j,.Assign [.Attribute (.Name "self" k) d l] (.Name b m) n]) (_:d≠c) (_:(a==("__debug__" :Str))=false) (_:(b==("__debug__" :Str))=false):U3 K C c d
structure ng(K:ay)(C:ai)(f1 f2:Str):Prop where
 kp:W.keepIn K (.ref C)=true
 bs:U3 K C f1 f2
 t1:typeLookup (.type "Exception") f1=pure none
 t2:typeLookup (.type "Exception") f2=pure none
theorem Gh{K:ay}(X:K.In h)(G:h.Ns N f)(e:W.nsIn K N n=some (some v)):f n=some v:=by obtain⟨p,l,k,d,a,_,c⟩:=G;unfold W.nsIn at e;split at e;rename_i g i m o r q;have:=X _ _ q;rw[d]at this;cases this;cases a;split at e;rename_i j b;rw[<- c];unfold nsFind findBy;rw[<- abK,b];simp only[aae]at e;rw[<- e];rfl;split at e<;>cases e;cases e
section
variable{P:aS}{w:aU}{K:ay}{C:ai}{b c:Str}{A:bC}{E:ak->aq->Prop}{s:aq}{a d:ak}
theorem P4(n:ng K C b c)(R:fq 1 A)(e:K.In s.heap)(xg:s.heap.NoLimit)
 (O:∀(i :aX)(tk:Nat)(g f t:ai),(∀h o,s.heap.get? h=some o->i.get? h=some o)->s.heap.get? g=none->s.heap.get? f=none->
   MR i C g f #[.ref t,.none,.none,.none,.bool false,.none] b c a d->Q (.ref g) ⟨i,s.gens,s.drawn,tk,s.os⟩):
 wpAny (model P w) A (call (.ref C) [a,d]) Q E s:=by
 obtain⟨xE,⟨N,xh,xA,st,xK,xH,xJ,G,g,k,p,v,D,J,Z,xr,q,bs,xx,sub,Q,u,x,T,U,V,X,Y,l,z,r,xu,xF,xG,xj,xq,j,m,S,M,H,I,L,y,B⟩,xB,xC⟩:=n;obtain⟨k,D,v,t,os⟩:=s;have g:k.Ns N (k.nsMap N):= .of_isNs (W.isNs_of_in e z);have z:=Gh e g r;obtain⟨G,xE,kV,Z,xG,r,p,J,xF,xh,n,xA⟩:=m.ex;have r:G= .type "function" :=by unfold W.isFn W.typeIn at j;simp only[n]at j;simpa using j
 show wpAny_call_exc_init F.excBase_Exception (e _ _ l) g z (e _ _ n) r (λi p G=> ?_) (by change 2<=sizeLine;rw[Wx];lia);obtain⟨j,new,xA,J,r,n⟩:=G;show wpAny_call ?_;have n :=e.keeps j;have xh:p≠C:=λz=>by rw[z,e _ _ l]at new;cases new
 show KW (s:=⟨i,D,v,t,os⟩) (mN:=k.nsMap N) (C:=C) (N:=N) m S M H I L y B F.store_Exception (ZO e g xu) (ZO e g xj) (ZO e g xq) xB xC ?_ n (xg.keeps j) ⟨⟨xr,q,bs,xx,sub,Q,u,x,T,U,V,X,Y,n _ _ l⟩,g.keeps j⟩ xh J λG tk f Z r xE=> ?_;have:=R.dp;rw[uG]
 lia
 show⟨rfl,O G tk p f xA (λh o z=>Z h o (λq=>(by rw[q,new]at z;cases z)) (j h o z)) new ?_ xE⟩;cases q:k.get? f with
 |none=>rfl
 |some o=>rw[j f o q]at r;cases r
end
end XL
end
section
namespace XL
open PySem PySem.Spec PyProof.Rows L2
theorem there(x:dw P w H h a o):∃ob,h.get? a=some ob:=by
 cases o with
 |lst xs=>obtain⟨_,_,_,_,e⟩:=x;show⟨_,e⟩
 |tup xs=>obtain⟨_,_,_,ob,e,_⟩:=x;show⟨_,e⟩
 |dK b=>obtain⟨_,_,_,_,ob,_,_,e,_⟩:=x;show⟨_,e⟩
 |dT b=>obtain⟨_,_,_,_,ob,_,_,e,_⟩:=x;show⟨_,e⟩
 |set S n=>obtain⟨ob,_,_,_,e,_⟩:=x;show⟨_,e⟩
 |ins C b fs=>obtain⟨_,_,_,e,_⟩:=x;show⟨_,e⟩
 |own y=>show x
 |xd fs=>obtain⟨_,⟨_,_,_,e,_⟩,_⟩:=x;show⟨_,e⟩
 |MS lo b=>obtain⟨_,_,_,e⟩:=x;show⟨_,e⟩
 |dI ob u=>obtain⟨e,_⟩:=x;show⟨_,e⟩
 |Oc b=>show⟨_,(show h.get? a=some _ from x)⟩
 |met f y=>show⟨_,(show h.get? a=some _ from x)⟩
 |ext b=>obtain⟨_,e,_⟩:=x;show e
theorem Ai(x:lG P w H h)(e:h.get? a=none):H a=none:=by
 cases q:H a with
 |none=>rfl
 |some o=>obtain⟨ob,z⟩:=there (x a o q);rw[e]at z;cases z
section
variable{M:Model}{A:bC}{E:ak->aq->Prop}{a:Env}{s:aq}
theorem DT(i:A.handled=none)
 (h:wpAny M A y (λv b=>∃c d t C N f,v= .ref c/\XC b.heap C N f/\b.heap.get? c=some {cls:= .ref C,dict:=some d,data:= .fields #[.ref t,.none,.none,.none,.bool false,.none]}/\E (.ref c) b) E s):
 wpAny M A (raiseStmt a (some y) none) Q E s:=by
 unfold raiseStmt;show Wm (Yp h (λv b g=> ?_) λ_ _ z=>z);obtain⟨c,d,t,C,N,f,rfl,⟨⟨o,q,bs,p,sub,y,z,Q,j,k,l,m,n,e⟩,_⟩,v,h⟩:=g;have c:(Value.ref C::j9).contains (.type "BaseException")=true:=by rw[abN,show j9.contains (.type "BaseException")=true by decide+kernel,Bool.or_true]
 obtain⟨y,g,d,tk,os⟩:=b
 repeat(first
  |with_reducible show Yv v ?_
  |with_reducible show Yv e ?_
  |(with_reducible show wpAny_isSubtype_exc e ?_;rw[c])
  |wp_step)
 show wpAny_raiseNew_none i h
end
def KZ(E:XK)(t:TA):TS:=λ_ c H=>t c H λb a=>∃(k:Int)(p:Nat),b=[.int k,.int (p:Int)]/\E (.int k 0) (some p) a
theorem fh{t:TA}(b:ng X.K C I c)(o:fq 1 X.A)(d:X.calm=true)(m:Gl X x)(N:X.mg x=some (.ref C))(q:gg (KX X.prog X.w C I c) X E)
 (c:PA X (e::a) t) (j:autoParam ((x==("__debug__" :Str))=false) cL._auto_3) (l:autoParam (starEach (e::a) X.env=(false,eval e X.env)::starEach a X.env) cL._auto_6) (n:autoParam ((backTo H (starEach a X.env)).any (·.1)=false) cL._auto_6):
 PS X (.Raise (some (.Call (.Name x h) (e::a) [] H)) none r) (KZ E t):=by
 intro f s i H D I h;show Wm (aas (DT (I.ok.hd d) (Wm (Yp (Y3 (nT I m N ?_ j)) (λv g x=>Wm (aas (Ww x))) λ_ _ z=>z))));show abg (h₀:=X.base) I.ok.mod.QD b.kp (dz (c f s i H _ I h) λd g⟨j,e,a,r,k,p,x,m⟩=>⟨a.ur,?_⟩) l n;subst x;cases r with
 |cons D x=>
  cases x with
  |cons F x=>cases x;obtain⟨N,_,_,_,_,_,_,_,_,_,_,_,_,_,_,y,B,bs,G,sub,E,H,j,n,r,s,u,v,w,A,_⟩:=b.bs;show P4 b o a.ur a.nolimit λl tk X x t I c d h=>⟨X,x,t,C,N,l.nsMap N,rfl,⟨⟨y,B,bs,G,sub,E,H,j,n,r,s,u,v,I _ _ (a.ur _ _ w)⟩,.of_isNs (W.isNs_of_in (a.ur.keeps I) A)⟩,h.obj,?_⟩;show q f i e g _ _ a ⟨X,k,p,e,rfl,⟨rfl,a.bare,Un.kept I,a.dD.kept I,⟨c,Ai a.dD c⟩,x,_,_,_,none,h,D,F,d,Ai a.dD d,.inl ⟨rfl,rfl⟩,λ_ z=>nomatch z⟩,m⟩
end XL
end
section
namespace XL
open PySem PySem.Spec PyProof.Rows L2
open Builtin Builtin.ObjectAttr
section
variable{a:aS}{w:aU}{A:bC}{E:ak->aq->Prop}{h:aX}{g:Array GenState}{d:Drawn}{t:Nat}{os:OsState}
variable{C N x i:ai}{c e:Str->az ak}{f:Str}{v:ak}{b:aV}
theorem Gi{tk:Tok}(n:ExcAttrBase "Exception" j9)(X:XC h C N c)(s:c f=none)(o:typeLookup (.type "Exception") f=pure none)
 (m:h.get? x=some b) (l:b.cls= .ref C) (p:b.dict=some i) (u:∀j,b.data≠.cls j) (q:h.Ns1 i e) (z:e f=some v) (y:Q (.done (.ret v)) ⟨h,g,d,t,os⟩):
 wpAny (model a w) A (Builtin.«object.__getattribute__» ⟨[.ref x,.str f tk],[]⟩) Q E ⟨h,g,d,t,os⟩:=by
 obtain⟨⟨M,O,bs,P,sub,D,F,G,H,I,J,K,L,k⟩,r⟩:=X;unfold Builtin.«object.__getattribute__»
 repeat(first
  |(with_reducible show Yv m ?_;rw[l])
  |(with_reducible show Zb k r n.mro o ?_;rw[s])
  |wp_step)
 split;rename_i j B;show absurd B (u j);unfold instanceDict
 repeat(first
  |(with_reducible show Yv m ?_;rw[l])
  |with_reducible show Yv k ?_
  |wp_step)
 rw[p]
 repeat(first
  |(with_reducible show wpAny_nsGet q.ns ?_;rw[z])
  |wp_step)
 show y
theorem Ji{tk:Tok}(j:ExcAttrBase "Exception" j9)(X:XC h C N c)(q:c f=none)(n:typeLookup (.type "Exception") f=pure none)
 (l:h.get? x=some b) (k:b.cls= .ref C) (o:b.dict=some i) (r:∀m,b.data≠.cls m) (p:h.Ns1 i e) (u:e f=some v) (s:R (.ok (.ret v)) ⟨h,g,d,t,os⟩):
 codeAny (model a w) A (.call (.builtin "BaseException.__getattribute__") ⟨[.ref x,.str f tk],[]⟩) R ⟨h,g,d,t,os⟩:=by
 have R :=X;obtain⟨⟨K,L,bs,M,sub,y,z,B,E,G,H,I,J,m⟩,D⟩:=X;show codeAny_call_builtin j.ga.plain F.entry_bexc_ga (wpAny_check_ga_own j m .base l k (Gi j R q n l k o r p u s))
theorem Ny{tk:Tok}{fill k:Bool}(j:ExcAttrBase "Exception" j9)(X:XC h C N c)(r:c "__getattribute__" =none)(s:c "__getattr__" =none)(B:c f=none)(p:typeLookup (.type "Exception") f=pure none)
 (o:h.get? x=some b) (m:b.cls= .ref C) (q:b.dict=some i) (D:∀n,b.data≠.cls n) (z:h.Ns1 i e) (F:e f=some v) (y:∃l u,v= .int l u) (G:Q v ⟨h,g,d,t,os⟩):
 wpAny (model a w) A (getAttrBy (.ref x) (.str f tk) fill k) Q E ⟨h,g,d,t,os⟩:=by
 obtain⟨l,u,rfl⟩:=y;have u :=X;obtain⟨⟨M,O,bs,P,sub,y,Q,G,H,I,J,K,L,l⟩,n⟩:=X;have y:=j.ga.bind (.ref x);have y:(k&&onTheHeap (Value.builtin "BaseException.__getattribute__"))=false:=by cases k<;>rfl
 have k:(Value.builtin "BaseException.__getattribute__" ==Value.builtin "object.__getattribute__")=false:=by decide+kernel
 have y:(onTheHeap (Value.ref C)&&Value.builtin "BaseException.__getattribute__" ==Value.builtin "object.__getattribute__")=false:=by rw[k];rfl
 repeat(any_goals(first
  |assumption
  |(with_reducible show Yv o ?_;rw[m])
  |(with_reducible show Zb l n j.mro j.ga.lookup ?_;rw[r])
  |(with_reducible show Zb l n j.mro j.noGetattr ?_;rw[s])
  |wp_step))
 show Ji j u B p o m q D z F ?_
 repeat(any_goals(first|assumption|wp_step))
theorem RZ(j:ExcAttrBase "Exception" j9)(X:XC h C N c)(o:c "__getattribute__" =none)(p:c "__getattr__" =none)(s:c f=none)(l:typeLookup (.type "Exception") f=pure none)
 (z:h.get? x=some b) (m:b.cls= .ref C) (n:b.dict=some i) (u:∀k,b.data≠.cls k) (r:h.Ns1 i e) (y:e f=some v) (q:∃B D,v= .int B D) (G:Q v ⟨h,g,d,t+1,os⟩):
 wpAny (model a w) A (getAttr (.ref x) f F) Q E ⟨h,g,d,t,os⟩:=by
 unfold getAttr
 repeat(any_goals(first|assumption|with_reducible apply Ny j X o p s l z m n u r y q|wp_step))
end
end XL
end
section
namespace XL
open PySem PySem.Spec PyProof.Rows L2
inductive U4(Y:Cx)(C:ai)(d e:Str)(c:ai)(k:Int)(p:Nat):Prop
 |mk (a:ai) (g f:aV) (l:Array ak) (i j:ak) (b:Str->az ak) (_:(c,g)∈Y.pn) (_:(a,f)∈Y.pn) (_:g={cls:= .ref C,dict:=some a,data:= .fields l}) (_:∀h:aX,h.get? a=some f->h.Ns1 a b) (_:b d=some i) (_:b e=some j) (_:RelV (.int k) i) (_:RelV (.int p) j):U4 Y C d e c k p
structure P5(Y:Cx)(C:ai)(f1 f2:Str)(ea:ai)(k:Int)(p:Nat):Prop where
 x:U4 Y C f1 f2 ea k p
def U5(b:ai)(v:V)(c:TE):TE:=λd H Q=>c d H λx a=>x= .ref b/\Q v a
section
variable{Y:Cx}{C c:ai}{a b:Str}{k:Int}{p:Nat}{o:bx}{d:TE}{e:Pos}
theorem K0{K:ay}(d:ng K C a b)(c:K.In h):∃N,XC h C N (h.nsMap N)/\h.nsMap N "__getattribute__" =none/\h.nsMap N "__getattr__" =none/\h.nsMap N a=none/\h.nsMap N b=none:=by obtain⟨N,F,G,st,M,J,L,w,x,y,z,A,B,D,E,s,u,bs,v,sub,e,f,g,i,j,k,l,m,n,t,H,I,q,r,o,p,_⟩:=d.bs;have d:h.Ns N (h.nsMap N):= .of_isNs (W.isNs_of_in c t);show⟨N,⟨⟨s,u,bs,v,sub,e,f,g,i,j,k,l,m,c _ _ n⟩,d⟩,ZO c d q,ZO c d r,ZO c d o,ZO c d p⟩
theorem P6(h:ng Y.K C a b)(X:P5 Y C a b c k p)(z:PE Y o d)(m:attributeBase o a Y.env (eval o Y.env)=eval o Y.env):PE Y (.Attribute o a e) (U5 c (.int k) d):=by intro r s n H Q I l;show BH m (dz (z s n H _ I l) λu v⟨x,j,f,r,i,t⟩=> ?_);subst i;obtain rfl:u=Value.ref c:=r;obtain⟨l,I,H,y,w,x,s,z,r,rfl,n,q,m,i,Q⟩:=X.x;obtain⟨N,X,l,m,s,H⟩:=K0 h f.ur;have H:=(f.pin _ (Xw _ z)).1;have I:=(f.pin _ (Xw _ r)).1;obtain⟨z,g,r,Q,os⟩:=v;have r :=i;show RZ F.attrBase_Exception X l m s h.t1 H rfl rfl (λv z=>by cases z) (n _ I) q (let⟨u,z⟩:=r;⟨k,u,z⟩) ⟨.int k,j,f.tok _,i,t⟩
theorem P7(h:ng Y.K C a b)(X:P5 Y C a b c k p)(z:PE Y o d)(m:attributeBase o b Y.env (eval o Y.env)=eval o Y.env):PE Y (.Attribute o b e) (U5 c (.int p) d):=by intro r s n H Q I l;show BH m (dz (z s n H _ I l) λu v⟨x,j,f,r,i,t⟩=> ?_);subst i;obtain rfl:u=Value.ref c:=r;obtain⟨l,I,H,y,w,x,s,z,r,rfl,n,m,q,Q,i⟩:=X.x;obtain⟨N,X,l,m,H,s⟩:=K0 h f.ur;have H:=(f.pin _ (Xw _ z)).1;have I:=(f.pin _ (Xw _ r)).1;obtain⟨z,g,r,Q,os⟩:=v;have r :=i;show RZ F.attrBase_Exception X l m s h.t2 H rfl rfl (λv z=>by cases z) (n _ I) q (let⟨u,z⟩:=r;⟨p,u,z⟩) ⟨.int p,j,f.tok _,i,t⟩
end
section
variable{X:Cx}{pins:ah (ai×aV)}{a:L2.St}{H:Hp}{s:aq}
theorem Gj(I:Inv X pins a H s)(c:b.frames=X.A.frames)(d:calm=true->b.handled=none)
 (e:∀q∈pn,s.heap.get? q.1=some q.2/\H q.1=none/\q.1≠X.env.locals/\q.1∉X.fs/\∀v,q.2.data≠.cell v):Inv {X with A:=b,calm:=calm,pn:=pn,xe:=xe} [] a H s:=
 ⟨⟨I.ok.mod,I.ok.kind,I.ok.glob,I.ok.blt,I.ok.above,I.ok.inj,I.ok.has,I.ok.Sy,d,c.trans I.ok.frames,I.ok.Td,I.ok.Te,I.ok.bs,I.ok.MY,I.ok.MZ,I.ok.M0,I.ok.sS,I.ok.QG⟩,
   I.os,I.bare,I.base,I.loc,I.cell,I.free,I.ko,λq b=>e q ((W0.mp b).elim id λz=>absurd z (by simp)),I.dD,I.len⟩
theorem Gk(b:X.Ok)(I:Inv {X with A:=c,calm:=calm,pn:=pn,xe:=xe} q a H s)
 (c:∀q∈X.pn++pins,s.heap.get? q.1=some q.2/\H q.1=none/\q.1≠X.env.locals/\q.1∉X.fs/\∀v,q.2.data≠.cell v):Inv X pins a H s:=
 ⟨b,I.os,I.bare,I.base,I.loc,I.cell,I.free,I.ko,c,I.dD,I.len⟩
theorem Gm(I:Inv X pins a H s)(e:Heap.SameBut X.env.locals s.heap d)(k:d.Ns X.env.locals p):Inv X pins (List.replicate X.N.length none) H {s with heap:=d,toks:=b}:=by
 have c:∀b o,b≠X.env.locals->s.heap.get? b=some o->d.get? b=some o:=λb o f z=>(e.2 b f).trans z;have i:∀b o,X.s8.heap.get? b=some o->b≠X.env.locals:=λb o e=>W6 (W4 (WR e) I.ok.above);show⟨I.ok,I.os,I.bare,⟨λb o e n f g=>c b o (i b o e) (I.base.keep b o e n f g),λb o e n f g=> ?_,I.base.free,λb o e g=> ?_,I.base.sQ,I.base.pX,I.base.sR⟩,⟨p,k,λm x v r h u=> ?_⟩,λx d e=> ?_,I.free,I.ko,λq l=> ?_,λj o e=> ?_,by simp⟩;obtain⟨k,z⟩:=I.base.slot b o e n f g;show⟨k,c b _ (i b o e) z⟩;obtain⟨f,z⟩:=I.base.there b o e g;show⟨f,c b _ (i b o e) z⟩;rw[Z4]at h;split at h<;>cases h;obtain⟨v,o,z,r⟩:=I.cell x d e;show⟨v,o,c d o (I.Od x d e) z,r⟩;obtain⟨z,f,b,g⟩:=I.pin q l;show⟨c _ _ b z,f,b,g⟩;show(I.dD j o e).mU (λd u b z=>c d u (λq=> ?_) z) (λ_ q=>q) λ_ _ q=>q;rcases b with b|b
 rw[<- b,q,I.free]at e;cases e;rw[q,I.free]at b;cases b
theorem Gn(I:Inv X pins a H s):Inv X pins (List.replicate X.N.length none) H s:=I.weak (by rw[abq,I.len]) λi v b=>by rw[Z4]at b;split at b<;>cases b
end
end XL
end
section
namespace XL
open PySem PySem.Spec PyProof.Rows L2
def Ox(n:Nat)(D:w5):w5 where
 nx:=λ_ H=>D.nx (List.replicate n none) H
 rt:=D.rt
 bk:=λ_ H=>D.bk (List.replicate n none) H
 ct:=λ_ H=>D.ct (List.replicate n none) H
def P8(n i:Nat)(c:XK->TS)(d:ai->Int->Nat->TS):TS:=λD e H=>c (λv o b =>∀(k:Int)(p:Nat)(a:ai),v= .int k 0->o=some p->b a=none->d a k p (Ox n D) ((List.replicate n none).set i (some (.ref a))) b) D e H
theorem HX(c:H T=none)(keep:∀b o,b≠T->h.get? b=some o->a.get? b=some o)(x:lG P w H h):lG P w H a :=λd o z=>by
 show(x d o z).mU (λb u a q=>keep b u (λe=> ?_) q) (λ_ q=>q) λ_ _ q=>q;rcases a with a|a
 rw[<- a,e,c]at z;cases z;rw[e,c]at a;cases a
theorem K1{fs:ah ai}(m:h.get? T=none)(keep:∀b o,b≠T->q.get? b=some o->z.get? b=some o)(un:Un fs [] H a h q):Un fs [] H a h z:=by
 have neT:∀b o,h.get? b=some o->b≠T:=λb o z q=>by rw[q,m]at z;cases z
 show⟨λb o z m h a=>keep b o (neT b o z) (un.keep b o z m h a),λb o z m h a=> ?_,un.free,λb o z a=> ?_,un.sQ,un.pX,un.sR⟩;obtain⟨H,q⟩:=un.slot b o z m h a;show⟨H,keep b _ (neT b o z) q⟩;obtain⟨h,q⟩:=un.there b o z a;show⟨h,keep b _ (neT b o z) q⟩
section
variable{X:Cx}{C L:ai}{d f x n:Str}{i:Nat}{c a:ah b7}{e:b7}{k b g:Pos}{j:XK->TS}{h:ai->Int->Nat->TS}
theorem P9(yi:ng X.K C d f)(zM:X.calm=true)(hex:X.ex=[])(yU:X.stack=X.env::X.outer)(yK:X.env.frame=some L)(yD:X.N.Nodup)(yM:X.N[i]? =some n)(xr:X.env.kindOf n=some .local)(yL:Gl X x)(yO:X.mg x=some (.ref C))
 (yG:∀(xF:XK)(pn:ah (ai×aV))(xe:ak->aq->Prop),gg (KX X.prog X.w C d f) {X with pn:=pn,xe:=xe} xF->Dj {X with pn:=pn,xe:=xe} c (j xF))
 (yT:∀(xE :bC)(pn:ah (ai×aV))(xe:ak->aq->Prop)(m:ai)(Q:Int)(S:Nat),P5 {X with A:=xE,calm:=false,pn:=pn,xe:=xe} C d f m Q S->Dj {X with A:=xE,calm:=false,pn:=pn,xe:=xe} (e::a) (h m Q S))
 (yJ:autoParam ((x==("__debug__" :Str))=false) cL._auto_3):
 PS X (.Try c [.ExceptHandler (some (.Name x k)) (some n) (e::a) b] [] [] g) (P8 X.N.length i j h):=by
 intro pins s zD yj xh I xS;have yN:(X.env.scope.kind== .class||(X.env.scope.kind== .module&&X.env.locals !=X.env.globals))=false:=by rw[I.ok.kind];rfl
 show wpAny_Try_except ?_;show Yp (yG _ (X.pn++pins) (λp Z=>wpAny (model X.prog X.w) X.A (noteFrame p X.env) (λ_ xg=>wpAny (model X.prog X.w) X.A (setFlight p none) (λ_ H=>wpAny (model X.prog X.w) X.A (handleBy p X.env [.ExceptHandler (some (.Name x k)) (some n) (e::a) b]) (SP X pins xh) X.xe H) X.xe xg) X.xe Z) ?_ s zD yj xh (Gj I rfl I.ok.hd I.pin) xS) (λxq Z q=> ?_) (λ_ _ q=>q)
 ·
  rintro zY yg zE xg p s' xG ⟨m,Q,S,o,rfl,yh,yC⟩;have G:=Gk I.ok xG λq l=>xG.pin q (Xw _ l);show HW G yU yK yh λH ym=> ?_;obtain⟨xQ,xP,un,yR,⟨xu,xW⟩,r,K,zl,zm,yo,zX,z5,⟨yf,z6,yX,zz,zx,zy⟩,zf,zg,xj,yq,⟨ye,W,yE,yH,yw⟩,x9,ya,yb⟩:=ym;show uU yf rfl ye W yE yH yw λO keep zj=> ?_;have yd:=K1 x9 keep un;have xV:=HX ya keep yR;have xH:Inv X pins yg o {H with heap:=O}:=G.J_ (s' :={H with heap:=O}) (ch:=[]) xQ yd xV xP λu z=>absurd z (by simp);have xC:=keep m _ (Yt W) yf;obtain⟨D,yu,yt,zp,xZ⟩:=zz;have zq:=keep r D (Yt yb) zp
  obtain⟨M,xx,xB,yr,_,_,yF,yI,yx⟩:∃M xx xB,some yo=some M/\K[1]? =some (.ref M)/\M≠m/\O.get? M=some xx/\xx.data= .fields xB/\xB[3]? =some .none:=by
   rcases zj with⟨z,_⟩|z
   cases z;show z
  cases yr;show wpAny_handleBy_cons (codeAny_handlers_test ?_) (by intro q;cases q);have yl:Inv {X with A:=X.A.mark (some (.ref m)),calm:=false,pn:=[],xe:=λ_ _=>False} [] yg o {H with heap:=O}:=Gj xH rfl (λz=>nomatch z) λq l=>absurd l (by simp);show nT (X:={X with A:=X.A.mark (some (.ref m)),calm:=false,pn:=[],xe:=λ_ _=>False}) yl yL yO ?_ yJ;obtain⟨N,yp,zI,zJ,zU,zV⟩:=K0 yi xH.ur;obtain⟨⟨zW,q,bs,zZ,sub,zF,zG,zH,zO,zP,zQ,zR,zS,yz⟩,zL⟩:=yp;obtain⟨zN,xR,xO,yc,xY⟩:=H;show wpAny_excMatches_sub_self yz xC rfl (by decide+kernel) (codeAny_handlers_suite_as ?_);show uU (s:=⟨O,xR,xO,yc,xY⟩) xC rfl ye W yF yI yx λxT Y z0=> ?_;have zo:=K1 x9 Y yd;have yS:=HX ya Y xV;have yk:=G.J_ (s' :=⟨xT,xR,xO,yc,xY⟩) (ch:=[]) xQ zo yS xP λu z=>absurd z (by simp);have zA:=Y m _ (Yt W) xC;have zu:=Y r D (Yt yb) zq;have R:∀u,xg.heap.get? u=none->u≠X.env.locals/\u∉X.fs:=λu z=>by show⟨λq=> ?_,λq=> ?_⟩;obtain⟨yW,⟨xX,_,_,p,_⟩,_⟩:=G.loc;rw[<- q,z]at p;cases p;obtain⟨_,xX,p,_⟩:=G.sS.mem q;rw[z]at p;cases p
  have y9:∀q∈([(m,{cls:= .ref C,dict:=some r,data:= .fields K}),(r,D)]:ah (ai×aV)),xT.get? q.1=some q.2/\o q.1=none/\q.1≠X.env.locals/\q.1∉X.fs/\∀y,q.2.data≠.cell y:=λq l=>by
   rcases WB.mp l with rfl|l
   show⟨zA,xW,(R m xu).1,(R m xu).2,λy z=>by cases z⟩;rcases WB.mp l with rfl|l
   show⟨zu,yq,(R r xj).1,(R r xj).2,λy z=> ?_⟩;rw[xZ.1]at z;cases z;show absurd l (by simp)
  show qU (Gn yk) yD yM (.inl xr) (show RelV (.ref m) (Value.ref m)from rfl) (λx6 xJ xA=> ?_) (.inr xr);obtain⟨xN,xA,P⟩:=xA
  have xU:∀u,xg.heap.get? u=none->u≠xN:=λu z q=>by
   rcases P with P|P
   show(R u z).1 (q.trans P);obtain⟨y,xX,p,_⟩:=G.cell n xN P;rw[<- q,z]at p;cases p
  have yZ:∀q∈([(m,{cls:= .ref C,dict:=some r,data:= .fields K}),(r,D)]:ah (ai×aV)),x6.heap.get? q.1=some q.2/\o q.1=none/\q.1≠X.env.locals/\q.1∉X.fs/\∀y,q.2.data≠.cell y:=λq l=>by
   obtain⟨zB,zC⟩:=y9 q l;show⟨(xA.2 q.1 ?_).trans zB,zC⟩;rcases WB.mp l with rfl|l
   show xU m xu;rcases WB.mp l with rfl|l
   show xU r xj;show absurd l (by simp)
  show Yp (yT (X.A.mark (some (.ref m))) (X.pn++pins++[(m,{cls:= .ref C,dict:=some r,data:= .fields K}),(r,D)]) _ m Q S
   ⟨r,_,D,K,zl,zm,yX,XH _ (by simp),XH _ (by simp),rfl,λxS p=>⟨D,yu,yt,p,xZ⟩,zx,zy,zf,zg⟩ x6 _ o (Ox X.N.length xh)
   (Gj xJ rfl (λz=>nomatch z) λq l=>(W0.mp l).elim (xJ.pin q) (yZ q)) (yC Q S m rfl rfl xW)) (λxq x8 t=> ?_) (λ_ _ z=>z)
  have V:∀{xe:ak->aq->Prop}{T:L2.St}{v:Hp}{xM:aq->Prop},Inv {X with A:=X.A.mark (some (.ref m)),calm:=false,pn:=X.pn++pins++[(m,{cls:= .ref C,dict:=some r,data:= .fields K}),(r,D)],xe:=xe} [] T v x8->
   (∀E,Inv X pins (List.replicate X.N.length none) v E->xM E)->wpAny (model X.prog X.w) X.A (do bindName X.env n .none;unbindBehindTheSuite X.env n b) (λ_ E=>xM E) X.xe x8:=λw yV=>by
   have xK:=Gk (pins:=pins) I.ok w λq l=>w.pin q (Xw _ (Xw _ l));obtain⟨yW,yP,_⟩:=id xK.loc;show wpAny_nameGoes xr yP yN λzK zT yQ zh=>yV _ (Gm xK zh yQ)
  cases xq with
  |next=>obtain⟨T,v,w,t⟩:=t;show V w λE F=>⟨_,v,F,t⟩
  |brk=>obtain⟨T,v,w,t⟩:=t;show V w λE F=>⟨_,v,F,t⟩
  |cont=>obtain⟨T,v,w,t⟩:=t;show V w λE F=>⟨_,v,F,t⟩
  |ret zk=>obtain⟨y,T,v,w,zc,t⟩:=t;show V w λE F=>⟨y,_,v,F,zc,t⟩
 ·
  have U:∀{xe:ak->aq->Prop}{B :L2.St}{o :Hp},Inv {X with pn:=X.pn++pins,xe:=xe} [] B o Z->Inv X pins B o Z:=λJ=>Gk I.ok J λq l=>J.pin q (Xw _ l);cases xq with
  |next=>obtain⟨B,o,J,q⟩:=q;show Zw ⟨B,o,U J,q⟩
  |brk=>obtain⟨B,o,J,q⟩:=q;show⟨B,o,U J,q⟩
  |cont=>obtain⟨B,o,J,q⟩:=q;show⟨B,o,U J,q⟩
  |ret zk=>obtain⟨y,B,o,J,zb,q⟩:=q;show⟨y,B,o,U J,zb,q⟩
end
end XL
end
section
namespace YL
open PySem PySem.Spec PyProof.Rows L2
theorem pG{P:aS}{w:aU}{h:aX}{b:ai}{c:ah (Key×ak)}(d:h.DictOf (bY P w) b c):∃a,h.DictAt (bY P w) b c a:=by obtain⟨o,b,a,r⟩:=d;show⟨a,o,b,r⟩
theorem DU{acc:Array ak}(n:KV a vs)(h:ItemsOf (λi v=>∃k x,vs[i]? =some (k,x)/\jO k v=true) acc vs.length):bW (a.map λb=>kV b.1) acc.toList:=by
 have f:∀(a:ah (Key×V))(vs:ah (Key×ak))(l:ah ak),KV a vs->l.length=vs.length->(∀(j:Nat)(v:ak),l[j]? =some v->∃k x,vs[j]? =some (k,x)/\jO k v=true)->bW (a.map λb=>kV b.1) l:=by
  intro a
  induction a with
  |nil=>
   intro vs l r c _;cases r;cases l with
   |nil=>show .nil
   |cons _ _=>simp at c
  |cons b a i=>
   intro vs l r c d;cases r with
   | @cons _ r _ o g m=>
     cases l with
     |nil=>simp at c
     |cons v l=>obtain⟨k,x,e,r⟩:=d 0 v rfl;simp only[Zk,aae]at e;show .cons ?_ (i o l m (by simpa using c) λj u k=>by simpa using d (j+1) u (by simpa using k));change RelV (kV b.1) v;rw[g.1,e];show uT r
 show f a vs acc.toList n (by rw[Yz];show h.1) λj v e=>h.2 j v (by simpa using e)
theorem K2{kvs:ah (Key×V)}{a:ah (Key×ak)}{acc:Array ak}(b:KV kvs a)(h:ItemsOf (λi v=>∃k,a[i]? =some (k,v)) acc a.length):bW (kvs.map (·.2)) acc.toList:=by
 rw[W.kdl_vals_eq (kvs:=a) acc.toList (by rw[Yz];show h.1) λj v e=>h.2 j v (by simpa using e)]
 have e:∀{kvs:ah (Key×V)}{a:ah (Key×ak)},KV kvs a->bW (kvs.map (·.2)) (a.map (·.2)):=by
  intro kvs a r
  induction r with
  |nil=>show .nil
  |cons h _ a=>show .cons h.2 a
 show e b
section
variable{b:aS}{w:aU}{A:bC}{E:ak->aq->Prop}{s:aq}
theorem BZ(z:A.handled=none)(i:(g==sysModules)=false)(f:s.heap.DictOf (bY b w) g vs)(j:vs.length<=sizeLine)
 (h:∀c tk(acc:Array ak),s.heap.objs.size<c.objs.size->(∀d o,s.heap.get? d=some o->c.get? d=some o)->ItemsOf (λl v=>∃k x,vs[l]? =some (k,x)/\jO k v=true) acc vs.length->Q acc.toList {s with heap:=c,toks:=tk}):
 wpAny (model b w) A (collect (.ref g)) Q E s:=by
 obtain⟨l,f⟩:=pG f;unfold collect;show Wm (wpAny_runValue (aaz F.entry_proto_collect ?_));rw[ZH F.plain_proto_collect _];change wpAny _ A.in1 (newList []>>=λl=>again (.builtin "list.__iadd__" ⟨[l,.ref g],[]⟩)) _ _ s;show Wm (Xp (Ww ⟨aa3 F.plain_list_iadd _,aaz F.entry_list_iadd ?_⟩));rw[ZH F.plain_list_iadd _];have k:=YH f.lt_size
 show W.kdl_extend (R:=λr g =>match r with| .ok (.ret v)=>wpAny (model b w) A (match v with| .ref a=>(do let o <- load a;match o.data with| .seq xs _=>pure xs.toList|_=>unsupported "internal:collect")|_=>unsupported "internal:collect") Q E g | .ok _=>False| .error e=>E e g)
  (s:={s with heap:=s.heap.push {cls:= .type "list",data:= .seq ([]:ah ak).toArray}}) (W.kdl_dict i) z (f.push _) s.heap.objs.size k k _ 0 (WH _ rfl) (λc tk acc r l g Q=> ?_) j
 show Wm (wpAny_load g ?_);show Ww (h c tk acc (WR g) (λd o z=>l d o (W6 (WR z)) (Wv _ z)) Q)
theorem DV(m:A.handled=none)(n:(h==sysModules)=false)(l:s.heap.DictOf (bY b w) h vs)(j:KV e vs)
 (i:e.map (·.1)=a.map Sum.inl) (p:a.length<64)
 (k:∀g tk p out c f,s.heap.objs.size<=p->(∀d o,s.heap.get? d=some o->g.get? d=some o)->IntsAre out.toList c->c.Perm a->c.Pairwise (·<=·)->g.get? p=some {cls:= .type "list",data:= .seq out f}->Q (.ref p) {s with heap:=g,toks:=tk}):
 wpAny (model b w) A (call (.builtin "sorted") [.ref h]) Q E s:=by
 have h:e.length=a.length:=by simpa using XE List.length i
 have p:vs.length=a.length:=by rw[<- XI j];show h
 have big:64<=sizeLine:=by rw[Wx];lia
 show aaS kind_sorted plain_sorted entry_sorted (args_sorted1 _) ?_;unfold Builtin.«sorted»;show Wm (m:=checkCount "sorted" 1 1 _) (Ww ?_);show Wm (BZ (A:=A.in1) m n l (by lia) λg p acc r q Q=> ?_)
 have h:IntsAre acc.toList a:=by
  have p:=DU j Q;have j:(e.map λQ=>kV Q.1)=a.map V.int:=by have:(e.map (·.1)).map kV=(a.map Sum.inl).map kV:=(by rw[i]);rw[WN,WN]at this;show this
  rw[j]at p;show p.ints
 have p:=h.length;show Wm (wpAny_newList ?_ (by lia));have a:(g.push (seqObj "list" acc.toList.toArray 0)).get? g.objs.size=some (seqObj "list" acc.toList.toArray 0):=WH _ rfl;show Wm (YY (Yb slot_list_sort ⟨_,a,rfl⟩ entry_list_sort (list_sort_tree a h (by lia) λout c p e i=>⟨_,rfl,Ww ⟨_,rfl,?_⟩⟩) (args_list_sort _)));obtain⟨f,h⟩:=sortedHeap_at (vs:=acc.toList) (out:=out) a;show k _ _ g.objs.size out c f (Zn r) (λd o z=> ?_) p e i h;have a:=q d o z;have h:=W6 (WR a);rw[sortedHeap_old h (WR (Wv _ a))];show Wv _ a
end
def DW(v d:ai):HO:= .ext λh=>h.IsValuesView v d
section
variable{X:Cx}
def uV:ah V->Hp->VK->Prop:=λc H Q=>∃(b:ai)(p:ah (Key×V))(a:ah Int),c=[V.ref b]/\Rd H b (.dK p)/\p.map (·.1)=a.map Sum.inl/\a.length<64/\
 ∀(b :ah Int)(p:ai),b.Perm a->b.Pairwise (·<=·)->H p=none->Q (.ref p) (upd H p (.lst (b.map V.int)))
theorem iO(g:X.calm=true):fz X (.builtin "sorted") uV:=by
 intro e s c H b a Q I r h;obtain⟨e,Q,b,rfl,a,k,c,q⟩:=h;rw[bW.BQ r];obtain⟨z,l,b,r,e⟩:=k8 I.dD a;show DV (I.ok.hd g) l e r k c λQ tk p n a f d m j b h i=> ?_;have e:(a.map V.int).length<=sizeLine:=by rw[Wl,b.length_eq];show Nm c
 show⟨.ref p,upd H p (.lst (a.map V.int)),I.laid (t' :=tk) m d ⟨e,n.toList,f,BP j,by simpa using i⟩,rfl,q a p b h (I.dD.fresh d)⟩
def K3:ah V->Hp->VK->Prop:=λc H Q=>∃(a:ai)(b:ah (Key×V)),c=[V.ref a]/\Rd H a (.dK b)/\∀p:ai,H p=none->Q (.ref p) (upd H p (.dK b))
theorem K4:fz X (.type "dict") K3:=by intro a s b H e d Q I r h;obtain⟨a,b,rfl,e,q⟩:=h;rw[bW.BQ r];obtain⟨z,d,f,c,a⟩:=k8 I.dD e;show kt_call_dict d a (by rw[<- c.length];show z) λh e r=> ?_;have h:=Xs.mpr (YH I.big);show⟨.ref s.heap.objs.size,upd H s.heap.objs.size (.dK b),I.laid (t' :=s.toks) (λd o a=>(r.2 d (W6 (WR a))).trans (Wv _ a)) (Wu _) ?_,rfl,q _ (I.dD.fresh (Wu _))⟩;show(show dw X.prog X.w _ _ _ (.dK b)from⟨z,h,f,c,e⟩)
def P_:ah V->Hp->VK->Prop:=λd H Q=>∃(a:ai)(b:ah (Key×V)),d=[V.ref a]/\Rd H a (.dK b)/\∀p:ai,H p=none->Q (.ref p) (upd H p (.lst (b.map λc=>kV c.1)))
theorem uW(f:X.calm=true):fz X (.type "list") P_:=by intro e s b H d a Q I r h;obtain⟨a,b,rfl,e,q⟩:=h;rw[bW.BQ r];obtain⟨z,h,d,c,a⟩:=k8 I.dD e;obtain⟨e,a⟩:=pG a;have e:b.length=d.length:=XI c;show W.kdl_call (W.kdl_dict h) (I.ok.hd f) a (by lia) λr tk acc d i g e=> ?_;show⟨.ref s.heap.objs.size,upd H s.heap.objs.size (.lst (b.map λh=>kV h.1)),I.laid (t' :=tk) i (Wu _) ⟨by rw[Wl];show z,acc.toList,d,DU c e,by simpa using g⟩,rfl,q _ (I.dD.fresh (Wu _))⟩
def K5:ah V->Hp->VK->Prop:=λc H Q=>∃(v a:ai)(b:ah (Key×V)),c=[V.ref v]/\H v=some (DW v a)/\Rd H a (.dK b)/\∀p:ai,H p=none->Q (.ref p) (upd H p (.lst (b.map (·.2))))
theorem K6(f:X.calm=true):fz X (.type "list") K5:=by intro e s i H g d Q I r h;obtain⟨v,d,b,rfl,g,e,q⟩:=h;rw[bW.BQ r];obtain⟨z,Q,i,c,a⟩:=k8 I.dD e;obtain⟨e,a⟩:=pG a;have e:b.length=i.length:=XI c;obtain⟨i,_,_⟩:=(show dw X.prog X.w H s.heap v (.ext λh=>h.IsValuesView v d)from I.dD v _ g);show W.kdl_call (r:=v) (W.kdl_values (knd:=bY X.prog X.w)) (I.ok.hd f) ⟨i,a⟩ (by lia) λQ tk acc d h g e=> ?_;show⟨.ref s.heap.objs.size,upd H s.heap.objs.size (.lst (b.map (·.2))),I.laid (t' :=tk) h (Wu _) ⟨by rw[Wl];show z,acc.toList,d,K2 c e,by simpa using g⟩,rfl,q _ (I.dD.fresh (Wu _))⟩
def HY(c:TE):TE:=λe H Q=>c e H λx a=>∃(d:ai)(b:ah (Key×V)),x= .ref d/\Rd a d (.dK b)/\∀v:ai,a v=none->Q (.ref v) (upd a v (DW v d))
theorem Jj(f:PE X e o)(g:autoParam (attributeBase e "values" X.env (eval e X.env)=eval e X.env) cL._auto_6)(i:autoParam ((a.endLine==b.line)=true) cL._auto_6):PE X (.Call (.Attribute e "values" a) [] [] b) (HY o):=by intro b s r H Q I h;show ZD (T:= "dict") (id:= "dict.values") g rfl i ZE Z1 F.type_dict_values (dz (f s r H _ I h) λu a⟨x,c,e,k,d,Q,b,o,q⟩=> ?_);subst b;obtain rfl:u=Value.ref d:=k;obtain⟨z,f,k,g,b⟩:=k8 e.dD o;show⟨b.typeIs,b.mapOf.noDict,?_⟩;have g:(a.heap.push {cls:= .type "dict_values",data:= .fields #[.ref d]}).get? a.heap.objs.size=some {cls:= .type "dict_values",data:= .fields #[.ref d]}:=WH _ rfl;show aaO Z1 F.entry_dict_values rfl (Zh ⟨rfl,b.typeIs,F.args_dict_values_1 _,_,meets_dict_values (bY X.prog X.w) d f,⟨k,b⟩,?_⟩);show⟨.ref a.heap.objs.size,upd c a.heap.objs.size (DW a.heap.objs.size d),e.laid (t' :=a.toks) (λb o=>Wv _) (Wu _) ?_,rfl,q _ (e.dD.fresh (Wu _))⟩;show(show dw X.prog X.w _ _ _ (.ext λh=>h.IsValuesView a.heap.objs.size d)from⟨⟨_,g,rfl,rfl⟩,⟨_,g⟩,λe f⟨o,b,r⟩ k=>⟨o,k o b,r⟩⟩)
theorem K7:QK X "str.find" (λx d H Q=>∃b c i,x= .str b/\d=[.str c,.int i]/\Q (.int (Txt.find3 b c i)) H):=by
 intro f s u H x d v t Q I e a h;obtain⟨b,c,i,rfl,rfl,h⟩:=h;obtain⟨t,rfl⟩:=e;cases a with
 |cons d a=>
  cases a with
  |cons x a=>cases a;obtain⟨u,rfl⟩:=d;obtain⟨d,rfl⟩:=x;show SC.find3 ⟨.int (Txt.find3 b c i),H,I.tok _,⟨_,rfl⟩,h⟩
end
end YL
end
section
namespace YL
open PySem PySem.Spec PyProof.Rows L2
section
variable{a:aS}{w:aU}{A:bC}{E:ak->aq->Prop}{s:aq}
theorem Jk(e:(d==sysModules)=false)(R:b.ExactDict)(f:b.data= .dict c h):
 MeetsIn a w (Builtin.«dict.__len__» ⟨[.ref d],[]⟩) (λ_ R s=>s.heap.get? d=some b/\R (.ok (.ret (.int c.size s.toks))) {s with toks:=s.toks+1}):=
 .of_wp λA R s⟨b,h⟩=>by change wpAny _ _ (dictSize d>>=_) _ _ s;unfold dictSize;show Wm (Wm (YT b f (Ww ?_)));change wpAny _ _ (Builtin.Dict.pendingCount d>>=_) _ _ s;show Wm (wpAny_pendingCount_other e (wpAny_ret_mkInt ?_));rw[Nat.add_zero];show h
theorem Jl(g:(d==sysModules)=false)(e:s.heap.get? d=some b)(f:b.ExactDict)(i:b.data= .dict c h)(j:(c.size:Int)<2 ^ 63)
 (h:Q (.int c.size (s.toks+1)) {s with toks:=s.toks+1+1}):wpAny (model a w) A (call (.builtin "len") [.ref d]) Q E s:=by
 have c:s.TypeIs (.ref d) "dict" :=⟨b,e,f.1⟩;show aaS kind_len plain_len entry_len (args_len1 _) ?_;unfold Builtin.«len»;show Wm (m:=oneArg "len" _) (Ww ?_);show Wm (m:=callSpecial? (.ref d) (Str.ofString "__len__")) (X5 (name:=Str.ofString "__len__") c F.slot_dict_len (call_meetsIn F.slot_dict_len c F.entry_dict_len (F.args_dict_len_1 _) (Jk g f i) ⟨e,?_⟩));show Wm (YY (Ww (Wm (wpAny_letGo ?_))));rw[Wn (by lia)];rw[Wn (by lia)];show Wm (wpAny_mkInt (Ww ⟨_,rfl,h⟩))
end
section
variable{X:Cx}
theorem Aj:fz X (.builtin "len") (λc H Q=>∃b a,c=[V.ref b]/\H b=some (.dT a)/\Q (.int a.length) H):=by intro d s f H c e Q I r h;obtain⟨b,a,rfl,Q,q⟩:=h;rw[bW.BQ r];obtain⟨z,f,s,i,j,c,r,e,g,h,d,_⟩:=I.dD b _ Q;have r:=abm d;have r:=XI i;rw[Wx]at z;show Jl f e g h (by lia) ?_;rw[show c.size=a.length by lia];show⟨.int a.length,H,I.tok _,⟨_,rfl⟩,q⟩
end
end YL
end
section
namespace YL
open PySem PySem.Spec PyProof.Rows L2
def Qa(tk d:TE):TE:=λe H Q=>∀p,H p=none->uO [(tk,d)] e (upd H p (.dT [])) λc a=>∃(x y:V)(b:ai)(k:ah Key),c=[(x,y)]/\a p=some (.dT [])/\x= .ref b/\a b=some (.tup (k.map kV))/\Q (.ref p) (upd a p (.dT [(k,y)]))
theorem K8{k v:bx}{tk c:TE}(f:X.A.units+1<cLine)(g:PE X k tk)(a:PE X v c):PE X (.Dict [some k] [v] pos) (Qa tk c):=by
 intro f s l H Q I h;have i:=I.dD.fresh (Wu s.heap.objs.size);have f:=I.laid (a:=s.heap.objs.size) (o:= .dT []) (h' :=s.heap.push {cls:= .type "dict",data:= .dict #[]}) (t' :=s.toks) (λ_ _ q=>Wv _ q) (Wu _) (DF s.heap I.big);have j:=DG (pos:=pos) g a (HN (X:=X) (pos:=pos));rw[arm_eval_Dict,zip_pairTrees [some k] [v] X.env pos rfl rfl,dictDisplay_pairs _ (by intro z;have:=XE List.length z;rw[abd _ _ _ _ rfl rfl]at this;simp at this) (by rw[abd _ _ _ _ rfl rfl];simp)];show Wm (aas (Wm ?_));unfold subDict;show Wm (wpAny_alloc (Wm (YY ?_)));rw[Wt (by rw[abd _ _ _ _ rfl rfl];simp)];show Wm (dz (j _ l _ _ f (h _ i)) λp n⟨m,d,I,c,x,y,v,o,b,e,g,a,q⟩=>YY ?_);subst b g;cases c with
 | @cons _ h _ _ g f=>cases f;obtain⟨u,r⟩:=h;obtain⟨f,p⟩:=g;cases(show u=Value.ref v from f);obtain⟨z,m,xs,c,v⟩:=Oq I.dD e;have g:xs=[]:=(by cases c;rfl);subst g;rw[List.forIn_cons];dsimp only;show Wm (Wm (Wm (wpAny_dictSet_heap (show X.A.units<cLine by lia) (pF I.dD a) v λh' f n=>Ww ?_)));dsimp only;rw[abu];show Ww (Ww (Ww (Ww ?_)));obtain⟨v,g,b,c,h,i,j,_,l⟩:=f;show⟨.ref s.heap.objs.size,upd d s.heap.objs.size (.dT [(o,y)]),tE I (by rw[e];show True.intro) n ⟨v,c⟩ ⟨by change 1<=sizeLine;rw[Wx];lia,m,_,.cons ⟨rfl,?_,p⟩ .nil,v,g,b,c,h,i,j,l⟩,rfl,q⟩;rw[aF (bF a e (λz=>nomatch z))];show a
end YL
end
section
namespace DL
open PySem PySem.Spec PyProof.Rows L2 XL YL
abbrev XX(P:aS)(w:aU)(a:ai):Kr:=KX P w a "kind" "place"
section
variable{P:aS}{w:aU}{K:ay}{mg:Str->az ak}{base:aX}{CT:ai}
theorem SQ{st:b7}{k:Nat}(F:KR K x S st f h) N
 (i:∀(b:ak)(A:bC)(c:ah Env)(s:aq)(H:Hp)(a:ah V)(Q:VK)(E:XK),fq k (A.deeper (envOfC S (bD st) s.heap.objs.size f b))->e a H Q E->iS N d (bD st)->
   ∃t,Dj (uH (XX P w CT) P w K mg base N S (bD st) f b A c s H E) (fy st) t/\t {nx:=λ_ g =>Q .non g,rt:=Q} (start N a) H)
 (len:∀a H Q E,e a H Q E->a.length=d.length)
 (S:iS N d (bD st)):j7 P w K mg base (XX P w CT) (k+1) f h d e:=by
 obtain⟨k,t,kV,h,j,e,b,f,N,rfl,g,d⟩:=F.ex;show Rn g d S len λA c s H a Q E e f=>i b A c s H a Q E e f S
structure fc(P:aS)(w:aU)(K:ay)(mg:Str->az ak)(base:aX)(CT:ai)(x:Str)(k:Nat)(ps:ah Str)(sp:Sp):Prop where
 ex:∃f fd,j7 P w K mg base (XX P w CT) k f fd ps sp/\mg x=some (.ref f)/\W.keepIn K (.ref f)=true/\Binds K fd ps []
structure Fv(P:aS)(w:aU)(K:ay)(mg:Str->az ak)(base:aX)(CT:ai)(C:ai)(m:Str)(k:Nat)(ps:ah Str)(sp:Sp):Prop where
 ex:∃f fd,j7 P w K mg base (XX P w CT) k f fd ps sp/\M7 K C m f/\Binds K fd ps []
structure MN(P:aS)(w:aU)(K:ay)(mg:Str->az ak)(base:aX)(CT:ai)(C:ai)(x:Str)(k:Nat)(ps:ah Str)(sp:Sp):Prop where
 ex:∃f fd,j7 P w K mg base (XX P w CT) k f fd ps sp/\Mk K C f/\mg x=some (.ref C)/\Binds K fd ps []
end
theorem aM:gg (XX X.prog X.w h) X E0:=by rintro b d H s e c I ⟨a,k,p,X,_,_,h⟩;show h.elim
section
variable{X:Cx}{g C:ai}{x m:Str}{k j:Nat}{q:ah Str}{h:Sp}{E:XK}{e o:bx}{b:ah bx}{t:TA}{i:TE}{p a d:Pos}
theorem aR(F:fc X.prog X.w X.K X.mg X.base g x k q h)(s:fq j X.A)(u:gg (XX X.prog X.w g) X E)(c:PA X (e::b) t)(m:autoParam (k<=j) cL._auto_3)(l:autoParam (Gl X x) cL._auto_11)(f:autoParam ((x==("__debug__" :Str))=false) cL._auto_3)
 (i:autoParam (starEach (e::b) X.env=(false,eval e X.env)::starEach b X.env) cL._auto_6) (r:autoParam ((backTo a (starEach b X.env)).any (·.1)=false) cL._auto_6):PE X (.Call (.Name x p) (e::b) [] a) (Hz h [] E t):=by
 obtain⟨v,w,F,o,n,d⟩:=F.ex;show M8 F (s.mono m) l o n d .nil u c f i r
theorem pH(F:MN X.prog X.w X.K X.mg X.base g C x k q h)(r:fq j X.A)(s:gg (XX X.prog X.w g) X E)(c:PA X (e::b) t)(m:autoParam (k+1<=j) cL._auto_3)(l:autoParam (Gl X x) cL._auto_11)(f:autoParam ((x==("__debug__" :Str))=false) cL._auto_3)
 (i:autoParam (starEach (e::b) X.env=(false,eval e X.env)::starEach b X.env) cL._auto_6) (o:autoParam ((backTo a (starEach b X.env)).any (·.1)=false) cL._auto_6):PE X (.Call (.Name x p) (e::b) [] a) (Dq C h [] E t):=by
 obtain⟨u,v,F,M,n,d⟩:=F.ex;show M_ M F (r.mono m) l n d .nil s c f i o
theorem HZ(F:MN X.prog X.w X.K X.mg X.base g C x k q h)(i:fq j X.A)(l:gg (XX X.prog X.w g) X E)(e:autoParam (k+1<=j) cL._auto_3)(d:autoParam (Gl X x) cL._auto_11)(c:autoParam ((x==("__debug__" :Str))=false) cL._auto_3):PE X (.Call (.Name x p) [] [] a) (Dq C h [] E F2):=by obtain⟨m,n,F,M,f,b⟩:=F.ex;show Ku M F (i.mono e) d f b .nil l c
theorem di(c:BG X.K C)(F:Fv X.prog X.w X.K X.mg X.base g C m k q h)(v:fq j X.A)(y:gg (XX X.prog X.w g) X E)(p:PE X o i)(n:PA X (e::b) t)(r:autoParam (k<=j) cL._auto_3)
 (w:autoParam (starEach (e::b) X.env=(false,eval e X.env)::starEach b X.env) cL._auto_6) (u:autoParam ((backTo a (starEach b X.env)).any (·.1)=false) cL._auto_6)
 (x:autoParam (eval (.Call (.Attribute o m d) (e::b) [] a) X.env=(do
   let l <- eval o X.env
   standAt d.atName
   let(f,first) <- holding [l] (getMethod l m s)
   callWith a f first (backTo a (starEach (e::b) X.env)) (backToKw a (keywordEach [] X.env)))) cL._auto_6):PE X (.Call (.Attribute o m d) (e::b) [] a) (Dn C m h [] E i t):=by
 obtain⟨f,z,F,s,l⟩:=F.ex;show M9 p c s F (v.mono r) l .nil y n w u x
theorem dY(c:BG X.K C)(F:Fv X.prog X.w X.K X.mg X.base g C m k q h)(p:fq j X.A)(s:gg (XX X.prog X.w g) X E)(e:PE X o i)(l:autoParam (k<=j) cL._auto_3)
 (r:autoParam (eval (.Call (.Attribute o m d) [] [] a) X.env=(do
   let b <- eval o X.env
   standAt d.atName
   let(f,first) <- holding [b] (getMethod b m n)
   callWith a f first (backTo a (starEach [] X.env)) (backToKw a (keywordEach [] X.env)))) cL._auto_6):PE X (.Call (.Attribute o m d) [] [] a) (Dn C m h [] E i F2):=by
 obtain⟨f,t,F,n,b⟩:=F.ex;show Ks e c n F (p.mono l) b .nil s r
inductive Ob(H:Hp)(a C:ai)(fs:ah (Str×V)):Prop
 |mk (dx) (_:H a=some (.ins C dx fs)):Ob H a C fs
def U6(C:ai)(f:Str)(c:TE):TE:=λd H Q=>c d H λx a=>∃b fs v,x= .ref b/\Ob a b C fs/\fs.lookup f=some v/\Q v a
theorem aW(c:BG X.K C)(n:bO X.K C f)(m:PE X o i)(k:autoParam (attributeBase o f X.env (eval o X.env)=eval o X.env) cL._auto_6):PE X (.Attribute o f a) (U6 C f i):=by intro e s r H Q I j;show BH k (dz (m s r H _ I j) λu Q⟨x,b,d,p,e,fs,v,h,⟨dx,g⟩,l,q⟩=> ?_);subst h;obtain rfl:u=Value.ref e:=p;show uD d g c n l λh Q H e=>⟨v,b,H,e,q⟩
theorem cG(c:Gl X x)(h:∃t,X.mg x=some (.str y t))(b:autoParam ((x==("__debug__" :Str))=false) cL._auto_3):PE X (.Name x a) (tC (.str y)):=by obtain⟨t,h⟩:=h;show BD c h ⟨t,rfl⟩ b
theorem bA(c:Gl X x)(h:∃t,X.mg x=some (.int y t))(b:autoParam ((x==("__debug__" :Str))=false) cL._auto_3):PE X (.Name x a) (tC (.int y)):=by obtain⟨t,h⟩:=h;show BD c h ⟨t,rfl⟩ b
theorem tG(d:Gl X x)(h:X.mg x=some (.ref c))(b:autoParam ((x==("__debug__" :Str))=false) cL._auto_3):PE X (.Name x a) (tC (.ref c)):=BD d h rfl b
def Qc(K:ay):ah V->Hp->VK->Prop:=λb H Q=>∃p a,b=[.ref p]/\(bG K H p a∨dO K H p a)/\Q (.int a.length) H
theorem b5:fz X (.builtin "len") (Qc X.K):=BL
def H6(K:ay):ah V->Hp->VK->Prop:=λb H Q=>∃p a,b=[.ref p]/\(bG K H p a∨dO K H p a)/\∀l,H l=none->Q (.ref l) (upd H l (.lst a))
theorem Gp:fz X (.type "list") (H6 X.K):=BO
def Gq(K:ay):ah V->Hp->VK->Prop:=λxs H Q=>∃p a,xs=[.ref p]/\((bG K H p a/\∀l,H l=none->Q (.ref l) (upd H l (.tup a)))∨(dO K H p a/\Q (.ref p) H))
theorem q6:fz X (.type "tuple") (Gq X.K):=w7
end
end DL
end
section
namespace DL
open PySem PySem.Spec PyProof.Rows L2 XL YL
theorem boot_ord:bootBuiltins "ord" =some (.builtin "ord"):=by decide+kernel
theorem boot_int:bootBuiltins "int" =some (.type "int"):=by decide+kernel
theorem boot_all:bootBuiltins "all" =some (.builtin "all"):=by decide+kernel
theorem boot_any:bootBuiltins "any" =some (.builtin "any"):=by decide+kernel
theorem boot_sum:bootBuiltins "sum" =some (.builtin "sum"):=by decide+kernel
theorem boot_sorted:bootBuiltins "sorted" =some (.builtin "sorted"):=by decide+kernel
theorem boot_list:bootBuiltins "list" =some (.type "list"):=by decide+kernel
theorem boot_tuple:bootBuiltins "tuple" =some (.type "tuple"):=by decide+kernel
theorem boot_dict:bootBuiltins "dict" =some (.type "dict"):=by decide+kernel
structure TT(K:ay)(mg:Str->az ak)(CT:ai)(cc:aC->ai)(ga:aC->ai):Prop where
 fx:ng K CT "kind" "place"
 tf:mg "TextFault" =some (.ref CT)
 cO:mg "len" =none
 H7:mg "ord" =none
 Ak:mg "int" =none
 Al:mg "all" =none
 H8:mg "any" =none
 H9:mg "sum" =none
 gk:mg "sorted" =none
 nh:mg "list" =none
 nZ:mg "tuple" =none
 q7:mg "dict" =none
 qf:mg "range" =none
 cB:mg "enumerate" =none
 je:∃t,mg "AS_LOADED" =some (.int (0) t)
 k_:∃t,mg "IS_NEW" =some (.int (1) t)
 g5:∃t,mg "IS_CHANGED" =some (.int (2) t)
 jz:∃t,mg "CHANGE_NEW" =some (.int (0) t)
 gA:∃t,mg "CHANGE_VALUES" =some (.int (1) t)
 iV:∃t,mg "CHANGE_GONE" =some (.int (2) t)
 n5:∃t,mg "LETTERS" =some (.str "abcdefghijklmnopqrstuvwxyz" t)
 ni:∃t,mg "DIGITS" =some (.str "0123456789" t)
 g6:∃t,mg "WORD_SIGNS" =some (.str "abcdefghijklmnopqrstuvwxyz0123456789_" t)
 qg:∃t,mg "SIGNS" =some (.str "-:;{}" t)
 nj:∃t,mg "BLANKS" =some (.str " \t\n" t)
 nk:∃t,mg "REMARK" =some (.str "#" t)
 fC:∃t,mg "CARRIAGE_RETURN" =some (.int (13) t)
 n6:∃t,mg "UNKNOWN" =some (.str "?" t)
 fD:∃t,mg "MOST_WORD_BYTES" =some (.int (12) t)
 iW:∃t,mg "MOST_DIGITS" =some (.int (7) t)
 iX:∃t,mg "MOST_NUMBER" =some (.int (1000000) t)
 uX:∃t,mg "WORD" =some (.str "word" t)
 nq:∃t,mg "NUMBER" =some (.str "number" t)
 B3:∃t,mg "SIGN" =some (.str "sign" t)
 Am:∃t,mg "END" =some (.str "end" t)
 lK:∃t,mg "NO_TOKEN" =some (.int (1) t)
 gP:∃t,mg "BAD_TOKEN" =some (.int (2) t)
 g7:∃t,mg "CANNOT_STAND" =some (.int (3) t)
 jA:∃t,mg "ENDS_EARLY" =some (.int (4) t)
 jV:∃t,mg "TOO_MANY" =some (.int (5) t)
 jB:∃t,mg "NAME_TAKEN" =some (.int (6) t)
 gB:∃t,mg "NO_SUCH_TABLE" =some (.int (7) t)
 gm:∃t,mg "CANNOT_HOLD" =some (.int (8) t)
 iY:∃t,mg "MOST_TABLES" =some (.int (4) t)
 g8:∃t,mg "MOST_COLUMNS" =some (.int (4) t)
 gn:∃t,mg "LEAST_VALUE" =some (.int (-1000000) t)
 g9:∃t,mg "MOST_VALUE" =some (.int (1000000) t)
 nu:∃t,mg "REFUSE" =some (.str "refuse" t)
 lg:∃t,mg "CASCADE" =some (.str "cascade" t)
 qh:∃t,mg "CLEAR" =some (.str "clear" t)
 jf:∃t,mg "MOST_ROWS" =some (.int (8) t)
 jW:∃t,mg "LEAST_ID" =some (.int (1) t)
 n7:∃t,mg "MOST_ID" =some (.int (99) t)
 g_:∃t,mg "OUT_OF_RANGE" =some (.int (2) t)
 gC:∃t,mg "BAD_REFERENCE" =some (.int (3) t)
 jC:∃t,mg "NOT_UNIQUE" =some (.int (4) t)
 lM:∃t,mg "NO_TABLE" =some (.int (-3) t)
 jg:∃t,mg "NO_OBJECT" =some (.int (-5) t)
 jh:∃t,mg "NO_COLUMN" =some (.int (-7) t)
 h_:∃t,mg "NOT_TO_TABLE" =some (.int (-8) t)
 kB:∃t,mg "MOST_KEPT" =some (.int (10) t)
 ic:∃t,mg "TABLE_FULL" =some (.int (-6) t)
 gD:∃t,mg "TOO_MANY_MADE" =some (.int (-10) t)
 ie:∃t,mg "NOT_IN_OTHER" =some (.int (-12) t)
 kC:∃t,mg "FIRST_NEW" =some (.int (100) t)
 lN:∃t,mg "MOST_NEW" =some (.int (60) t)
 n8:∃t,mg "NO_BYTE" =some (.int (-1) t)
 gE:∃t,mg "TEXT_TOO_LONG" =some (.int (-2) t)
 lO:∃t,mg "NOT_ROWS" =some (.int (-4) t)
 ig:∃t,mg "NOTHING_KEPT" =some (.int (-9) t)
 kD:∃t,mg "MOST_BYTE" =some (.int (255) t)
 kE:∃t,mg "MOST_TEXT" =some (.int (4096) t)
 lP:mg "RESERVED" =some (.ref (ga "RESERVED"))
 tH:mg "DEEDS" =some (.ref (ga "DEEDS"))
 kF:mg "QUESTIONS" =some (.ref (ga "QUESTIONS"))
 tK:mg "CALLS" =some (.ref (ga "CALLS"))
 fJ:∀H,dO K H (ga "RESERVED") [.str "table",.str "number",.str "from",.str "to",.str "ref",.str "none",.str "cascade",.str "clear",.str "unique"]
 kj:∀H,dO K H (ga "DEEDS") [.str "new",.str "set",.str "remove",.str "back",.str "relist",.str "refresh"]
 eY:∀H,dO K H (ga "QUESTIONS") [.str "list",.str "row",.str "find",.str "changed",.str "tables"]
 b8:BG K (cc "Token")
 eu:bO K (cc "Token") "kind"
 cD:bO K (cc "Token") "text"
 cT:bO K (cc "Token") "place"
 bE:BG K (cc "Reader")
 eE:bO K (cc "Reader") "text"
 eT:bO K (cc "Reader") "place"
 bL:BG K (cc "Column")
 eZ:bO K (cc "Column") "low"
 eF:bO K (cc "Column") "high"
 bR:bO K (cc "Column") "target"
 cH:bO K (cc "Column") "optional"
 dj:bO K (cc "Column") "removal"
 d_:bO K (cc "Column") "unique"
 dc:BG K (cc "Mention")
 eU:bO K (cc "Mention") "column"
 eV:bO K (cc "Mention") "name"
 fj:bO K (cc "Mention") "place"
 cK:BG K (cc "Link")
 fX:bO K (cc "Link") "table"
 eG:bO K (cc "Link") "number"
 fY:bO K (cc "Link") "index"
 dW:bO K (cc "Link") "removal"
 dS:bO K (cc "Link") "holder"
 fM:bO K (cc "Link") "goal"
 aH:BG K (cc "Session")
 bq:bO K (cc "Session") "schema"
 bV:bO K (cc "Session") "loaded"
 aZ:bO K (cc "Session") "now"
 cJ:bO K (cc "Session") "made"
 cU:bO K (cc "Session") "past"
 cP:bO K (cc "Session") "undone"
end DL
end
section
namespace DL
open PySem PySem.Spec PyProof.Rows L2 XL YL
def K9(N P:ah Str)(a:Scope):Bool:=a.kind== .function&& !a.isCoroutine&& !a.isGenerator&&decide N.Nodup&&decide (N.take P.length=P)&&P.all (λx=>decide (a.names.lookup x=some .local∨a.names.lookup x=some .cell))&&a.names.all λy=>decide (y.2≠.free)
theorem K_(h:K9 N P a=true):iS N P a:=by simp only[K9,WV,Zc,XA,X6,XD]at h;obtain⟨⟨⟨⟨⟨⟨a,b⟩,c⟩,d⟩,e⟩,f⟩,g⟩:=h;show⟨a,b,c,d,e,f,g⟩
def Qd(P:ah ak->Prop):Nat->Prop
 |0=>P []
 |n+1=>∀a,Qd (λl=>P (a::l)) n
theorem Qe{n:Nat}{P:ah ak->Prop}{a:ah ak}(h:Qd P n)(e:a.length=n):P a:=by
 induction n generalizing P a with
 |zero=>rw[Yr.mp e];show h
 |succ n b=>
  cases a with
  |nil=>cases e
  |cons n a=>show b (P:=λl=>P (n::l)) (h n) (Nat.succ.inj e)
section
variable{P:aS}{w:aU}{K:ay}{b:Str->az ak}{h a:aX}{d:ai}
theorem FnAt.fn{st:b7}(h:FnAt K x i st f):∃g kV d e a b c,g=W.fnOf x i (j8 st) (fy st) (bD st) .none kV d e a b c/\KR K x i st f g:=by obtain⟨i,x,a,j,kV,d,e,b,c,l,g,k⟩:=h;show⟨_,kV,d,e,a,b,c,rfl,PZ l g k⟩
def q8(x h:Str)(st:b7)(a:ah Str):Prop:=∀(kV f g:ak)(c:az ai)(d e:ak),Qd (λb=>bindArgs (W.fnOf x h (j8 st) (fy st) (bD st) .none kV f g c d e) ⟨b,[]⟩=pure (a.zip b)) a.length
theorem bM.VP{st:b7}{k:Nat}(X:K.In h)(G:h.Ns mainGlobals b)(e:bM K x st)(g:q8 x x st F)(ok:∀{f:ai}{c:FuncData},KR K x x st f c->j7 P w K b a (XX P w d) k f c F n):fc P w K b a d x k F n:=by obtain⟨f,n,e⟩:=e;obtain⟨c,kV,j,m,k,x,i,l,F⟩:=e.fn;show⟨f,c,ok F,aaH X G n,F.kp,F.binds λ_ _ _ _ _ _ _=>Qe (g _ _ _ _ _ _)⟩
theorem cI.met{m F:Str}{st:b7}{k:Nat}(e:cI K C m F st)(h:q8 m F st g)(ok:∀{f:ai}{c:FuncData},KR K m F st f c->j7 P w K b a (XX P w d) k f c g i):Fv P w K b a d C m k g i:=by obtain⟨f,n,i,e⟩:=e;obtain⟨c,kV,C,l,g,k,m,j,F⟩:=e.fn;show⟨f,c,ok F,⟨n,i,F.kp⟩,F.binds λ_ _ _ _ _ _ _=>Qe (h _ _ _ _ _ _)⟩
theorem ClsAt.cls(c:ClsAt K x C):BG K C:=⟨c.pg,c.hd,c.po,c.sa⟩
theorem cI.VQ{st:b7}{k:Nat}(X:K.In h)(G:h.Ns mainGlobals b)(g:ClsAt K x C)(e:cI K C "__init__" i st)(j:q8 "__init__" i st F)(ok:∀{f:ai}{c:FuncData},KR K "__init__" i st f c->j7 P w K b a (XX P w d) k f c F n):MN P w K b a d C x k F n:=by obtain⟨f,n,i,e⟩:=e;obtain⟨c,kV,l,o,k,x,C,m,F⟩:=e.fn;show⟨f,c,ok F,⟨g.VH,n,i,g.kp⟩,aaH X G g.ns,F.binds λ_ _ _ _ _ _ _=>Qe (j _ _ _ _ _ _)⟩
end
structure En(P:aS)(w:aU)(K:ay)(mg:Str->az ak)(base:aX)(CT:ai)(cc ga:aC->ai):Prop where
 T:TT K mg CT cc ga
 h:∃h:aX,K.In h/\h.Ns mainGlobals mg
 fs:Q0 K
 fZ:cI K (cc "Token") "__init__" "Token.__init__" kR
 fE:cI K (cc "Reader") "__init__" "Reader.__init__" j_
 iu:cI K (cc "Reader") "ahead" "Reader.ahead" mO
 iZ:cI K (cc "Reader") "look" "Reader.look" oH
 i6:cI K (cc "Reader") "take" "Reader.take" oJ
 f5:cI K (cc "Reader") "accepts" "Reader.accepts" kT
 i7:cI K (cc "Reader") "want" "Reader.want" oK
 e7:cI K (cc "Reader") "take_name" "Reader.take_name" jL
 dQ:cI K (cc "Reader") "take_new_name" "Reader.take_new_name" gW
 ez:cI K (cc "Reader") "take_number" "Reader.take_number" jb
 fF:cI K (cc "Column") "__init__" "Column.__init__" kg
 e8:cI K (cc "Mention") "__init__" "Mention.__init__" jM
 gF:cI K (cc "Link") "__init__" "Link.__init__" mq
 e9:cI K (cc "Session") "__init__" "Session.__init__" jN
 iw:cI K (cc "Session") "hold" "Session.hold" mP
 fG:cI K (cc "Session") "present" "Session.present" kh
 f6:cI K (cc "Session") "change" "Session.change" kU
 gG:cI K (cc "Session") "go_to" "Session.go_to" mw
 H_:ClsAt K "Token" (cc "Token")
 DX:ClsAt K "Reader" (cc "Reader")
 DY:ClsAt K "Column" (cc "Column")
 An:ClsAt K "Mention" (cc "Mention")
 La:ClsAt K "Link" (cc "Link")
 Ao:ClsAt K "Session" (cc "Session")
section
variable{P:aS}{w:aU}{K:ay}{c:Str->az ak}{base:aX}{a:ai}{d e:aC->ai}
theorem cg{st:b7}{k:Nat}(l:En P w K c base a d e)(o:bM K x st) N(p:∀(f:ai)(h:ak)(A:bC)(j:ah Env)(s:aq)(H:Hp)(g:ah V)(Q:VK)(E:XK),fq k (A.deeper (envOfC x (bD st) s.heap.objs.size f h))->n g H Q E->iS N i (bD st)->TT K c a d e->
 ∃t,Dj (uH (XX P w a) P w K c base N x (bD st) f h A j s H E) (fy st) t/\t {nx:=λ_ m =>Q .non m,rt:=Q} (start N g) H)
 (len:autoParam (∀g H Q E,n g H Q E->g.length=i.length) cL._auto_12)
 (S:autoParam (K9 N i (bD st)=true) cL._auto_13)
 (b:autoParam (q8 x x st i) cL._auto_14):fc P w K c base a x (k+1) i n:=by
 obtain⟨i,X,G⟩:=l.h;show o.VP X G b λF=>SQ F N (λh A j s H g Q E m i sc=>p _ h A j s H g Q E m i sc l.T) len (K_ S)
theorem sV{m q:Str}{st:b7}{k:Nat}(n:En P w K c base a d e)(l:cI K C m q st) N(o:∀(i:ai)(f:ak)(A:bC)(h:ah Env)(s:aq)(H:Hp)(b:ah V)(Q:VK)(E:XK),fq k (A.deeper (envOfC q (bD st) s.heap.objs.size i f))->j b H Q E->iS N g (bD st)->TT K c a d e->
 ∃t,Dj (uH (XX P w a) P w K c base N q (bD st) i f A h s H E) (fy st) t/\t {nx:=λ_ F =>Q .non F,rt:=Q} (start N b) H)
 (len:autoParam (∀b H Q E,j b H Q E->b.length=g.length) cL._auto_12)
 (S:autoParam (K9 N g (bD st)=true) cL._auto_13)
 (i:autoParam (q8 m q st g) cL._auto_14):Fv P w K c base a C m (k+1) g j:=
 l.met i λF=>SQ F N (λf A h s H b Q E j g m=>o _ f A h s H b Q E j g m n.T) len (K_ S)
theorem Jm{st:b7}{k:Nat}(i:En P w K c base a d e)(n:ClsAt K x C)(m:cI K C "__init__" q st) N(o:∀(j:ai)(f:ak)(A:bC)(h:ah Env)(s:aq)(H:Hp)(b:ah V)(Q:VK)(E:XK),fq k (A.deeper (envOfC q (bD st) s.heap.objs.size j f))->l b H Q E->iS N g (bD st)->TT K c a d e->
 ∃t,Dj (uH (XX P w a) P w K c base N q (bD st) j f A h s H E) (fy st) t/\t {nx:=λ_ F =>Q .non F,rt:=Q} (start N b) H)
 (len:autoParam (∀b H Q E,l b H Q E->b.length=g.length) cL._auto_12)
 (S:autoParam (K9 N g (bD st)=true) cL._auto_13)
 (j:autoParam (q8 "__init__" q st g) cL._auto_14):MN P w K c base a C x (k+1) g l:=by
 obtain⟨g,X,G⟩:=i.h;show m.VQ X G n j λF=>SQ F N (λf A h s H b Q E k g l=>o _ f A h s H b Q E k g l i.T) len (K_ S)
end
end DL
end
section
namespace PM
open VauowBase
theorem lQ{a:Type}(f:a->Bool)(l:ah a):(l.dropWhile f).length<=l.length:=(List.dropWhile_suffix f).length_le
theorem ny{h:Type}(f:h->Bool):∀l:ah h,l.dropWhile f=l.drop (l.takeWhile f).length
 |[]=>rfl
 |a::r=>by by_cases h:f a=true;rw[List.dropWhile_cons_of_pos h,Yw h,WG,abC];show ny f r;rw[List.dropWhile_cons_of_neg h,ZJ h];rfl
theorem oR(w:Nat):∀(n:Nat)(t:Text)(k j:Nat),t.length<=n->t.length<k->t.length<j->tokensIn w k t=tokensIn w j t:=by
 intro n
 induction n with
 |zero=>
  intro t k j b c x;cases t with
  |nil=>cases k with
   |zero=>lia
   |succ k=>cases j with
    |zero=>lia
    |succ j=>rfl
  |cons w r=>simp at b
 |succ n a=>
  intro t k j b c x;cases k with
  |zero=>lia
  |succ k=>
   cases j with
   |zero=>lia
   |succ j=>
    cases t with
    |nil=>rfl
    |cons w r=>simp only[WG]at b c x;have w:=lQ (λx=>x !=10) r;have w:=lQ inner r;have w:=lQ digit r;simp only[tokensIn];rw[a r k j (by lia) (by lia) (by lia),a (r.dropWhile λx=>x !=10) k j (by lia) (by lia) (by lia),a (r.dropWhile inner) k j (by lia) (by lia) (by lia),a (r.dropWhile digit) k j (by lia) (by lia) (by lia)]
def tk(a:Text)(p:Nat):Toks:=tokensIn a.length (a.length+1) (a.drop p)
theorem Lb a:tk a a.length=[(a.length,.over)]:=by unfold tk;rw[abe];rfl
theorem lR{cs:Text}{p c:Nat}{r:Text}(e:cs.drop p=c::r):tk cs p=
 if blank c then tk cs (p+1)
 else if c==35 then tk cs (p+1+(r.takeWhile λx=>x !=10).length)
 else if small c then(if WORD<(c::r.takeWhile inner).length then[(p,.bad 2)]else(p,.word (c::r.takeWhile inner))::tk cs (p+(c::r.takeWhile inner).length))
 else if digit c then(if goodNumber (c::r.takeWhile digit)then(p,.num (valueIn (c::r.takeWhile digit)))::tk cs (p+(c::r.takeWhile digit).length)else[(p,.bad 2)])
 else if signs.contains c then(p,.sign c)::tk cs (p+1)
 else[(p,.bad 1)]:=by
 have c:cs.length-p=r.length+1:=by have:=XE List.length e;simpa using this
 have c:p<cs.length:=by omega
 have c:r=cs.drop (p+1):=by have:=XE (List.drop 1) e;rw[YS]at this;simpa using this.symm
 have k:∀f:Nat->Bool,tokensIn cs.length cs.length (r.dropWhile f)=tk cs (p+1+(r.takeWhile f).length):=by intro f;rw[ny,c,YS];unfold tk;show oR _ cs.length _ _ _ ?_ ?_ ?_<;>(rw[Xu];omega)
 have f:tokensIn cs.length cs.length r=tk cs (p+1):=by rw[c];unfold tk;show oR _ cs.length _ _ _ ?_ ?_ ?_<;>(rw[Xu];omega)
 have c:cs.length-(r.length+1)=p:=by omega
 conv=>lhs;unfold tk;rw[e]
 simp only[tokensIn,c,k,f,WG];have c:∀k,p+1+k=p+(k+1):=λk=>by omega
 simp only[c]
theorem Gr(h:signs.contains c=true):small c=false/\digit c=false/\blank c=false/\(c==35)=false:=by
 have:c=45∨c=58∨c=59∨c=123∨c=125:=by simpa[signs]using h
 rcases this with rfl|rfl|rfl|rfl|rfl<;>decide
structure At(cs:Text)(p q:Nat):Prop where
 le:p<=q
 len:q<=cs.length
 eq:tk cs p=tk cs q
 here:∀c,cs[q]? =some c->blank c=false/\(c==35)=false
theorem gH{cs:Text}{q c:Nat}(h:cs[q]? =some c):cs.drop q=c::cs.drop (q+1):=by obtain⟨c,e⟩:=Wo.mp h;rw[ZR c,e]
inductive Gs:Tok->aC->Text->Prop where
 |word {w:Text} (h:w.length<=12) (d:∃c r,w=c::r/\small c=true):Gs (.word w) "word" w
 |num {w:Text} (h:goodNumber w=true) (a:w.all digit=true) (b:w≠[]):Gs (.num (valueIn w)) "number" w
 |sign {c:Nat} (h:signs.contains c=true):Gs (.sign c) "sign" [c]
 |over:Gs .over "end" []
theorem Gs.is{tok:Tok}{w:Text}(h:Gs tok a w):(a= "word"/\tok= .word w/\w.length<=12/\∃c r,w=c::r/\small c=true)∨(a= "number"/\tok= .num (valueIn w)/\goodNumber w=true/\w.all digit=true/\w≠[])∨
 (a= "sign"/\∃c,tok= .sign c/\w=[c]/\signs.contains c=true)∨(a= "end"/\tok= .over/\w=[]):=by
 cases h with
 |word h a=>show .inl ⟨rfl,rfl,h,a⟩
 |num h a b=>show .inr (.inl ⟨rfl,rfl,h,a,b⟩)
 | @sign c h=>show .inr (.inr (.inl ⟨rfl,c,rfl,rfl,h⟩))
 |over=>show .inr (.inr (.inr ⟨rfl,rfl,rfl⟩))
structure q9(cs:Text)(q:Nat)(ts:Toks)(tok:Tok)(kd:aC)(w:Text):Prop where
 held:Gs tok kd w
 ts:∃rest,ts=(q,tok)::rest/\(tok= .over∨rest=tk cs (q+w.length))
 le:q+w.length<=cs.length
theorem rY(h:small c=true):inner c=true:=by unfold inner;rw[h];rfl
theorem Jo(h:small c=true):digit c=false/\signs.contains c=false:=by
 unfold small at h;simp at h;constructor;unfold digit;simp
 lia
 simp[signs]
 lia
theorem Aq(h:digit c=true):small c=false/\signs.contains c=false:=by
 unfold digit at h;simp at h;constructor;unfold small;simp
 lia
 simp[signs]
 lia
theorem q_{cs:Text}{q:Nat}(f:Nat->Bool)(a:q<=cs.length):q+((cs.drop q).takeWhile f).length<=cs.length:=by
 have:=(aah (p:=f) (l:=cs.drop q)).length_le;rw[Xu]at this
 lia
section
variable{a:Text}{q c:Nat}
theorem Ar:q9 a a.length (tk a a.length) .over "end" []:=⟨.over,⟨[],Lb a,.inl rfl⟩,by simp⟩
theorem uY(b:a[q]? =some c)(h:small c=true):(a.drop q).takeWhile inner=c::(a.drop (q+1)).takeWhile inner:=by rw[gH b,Yw (rY h)]
theorem rg(b:a[q]? =some c)(h:digit c=true):(a.drop q).takeWhile digit=c::(a.drop (q+1)).takeWhile digit:=by rw[gH b,Yw h]
theorem tL(b:a[q]? =some c)(e:blank c=false)(d:(c==35)=false)(h:small c=true):tk a q=if 12<((a.drop q).takeWhile inner).length then[(q,.bad 2)]else(q,.word ((a.drop q).takeWhile inner))::tk a (q+((a.drop q).takeWhile inner).length):=by rw[lR (gH b),e,d,h,uY b h];rfl
theorem B4(b:a[q]? =some c)(e:blank c=false)(d:(c==35)=false)(h:digit c=true):tk a q=if goodNumber ((a.drop q).takeWhile digit)then(q,.num (valueIn ((a.drop q).takeWhile digit)))::tk a (q+((a.drop q).takeWhile digit).length)else[(q,.bad 2)]:=by rw[lR (gH b),e,d,h,(Aq h).1,rg b h];rfl
theorem Ia(g:a[q]? =some c)(h:signs.contains c=true):tk a q=(q,.sign c)::tk a (q+1):=by obtain⟨b,d,e,f⟩:=Gr h;rw[lR (gH g),b,d,e,f,h];rfl
theorem Gu(g:a[q]? =some c)(f:blank c=false)(e:(c==35)=false)(b:small c=false)(d:digit c=false)(h:signs.contains c=false):tk a q=[(q,.bad 1)]:=by rw[lR (gH g),f,e,b,d,h];rfl
theorem uZ(b:a[q]? =some c):q<a.length:=(Wo.mp b).1
theorem As(b:a[q]? =some c)(e:blank c=false)(d:(c==35)=false)(h:small c=true)(f:((a.drop q).takeWhile inner).length<=12):q9 a q (tk a q) (.word ((a.drop q).takeWhile inner)) "word" ((a.drop q).takeWhile inner):=
 ⟨.word f ⟨c,_,uY b h,h⟩,⟨_,by rw[tL b e d h,Wn (by lia)],.inr rfl⟩,q_ _ (Zn (uZ b))⟩
theorem DZ(b:a[q]? =some c)(f:blank c=false)(e:(c==35)=false)(h:digit c=true)(d:goodNumber ((a.drop q).takeWhile digit)=true):q9 a q (tk a q) (.num (valueIn ((a.drop q).takeWhile digit))) "number" ((a.drop q).takeWhile digit):=
 ⟨.num d abO (by rw[rg b h];simp),⟨_,by rw[B4 b f e h,Wt d],.inr rfl⟩,q_ _ (Zn (uZ b))⟩
theorem Au(b:a[q]? =some c)(h:signs.contains c=true):q9 a q (tk a q) (.sign c) "sign" [c]:=⟨.sign h,⟨_,Ia b h,.inr rfl⟩,by have:=uZ b;simp;lia⟩
theorem Lc(d:q<=a.length)(h:∀c,a[q]? =some c->blank c=false/\(c==35)=false):(∃tok b w,q9 a q (tk a q) tok b w)∨∃k,tk a q=[(q,.bad k)]:=by
 cases b:a[q]? with
 |none=>
  have:q=a.length:=by
   have:=Yj.mp b
   lia
  subst this;show .inl ⟨_,_,_,Ar⟩
 |some c=>obtain⟨e,d⟩:=h c b;by_cases f:small c=true;by_cases h:((a.drop q).takeWhile inner).length<=12;show .inl ⟨_,_,_,As b e d f h⟩;show .inr ⟨2,by rw[tL b e d f,Wt (by lia)]⟩;by_cases g:digit c=true;by_cases h:goodNumber ((a.drop q).takeWhile digit)=true;show .inl ⟨_,_,_,DZ b e d g h⟩;show .inr ⟨2,by rw[B4 b e d g,Wn h]⟩;by_cases h:signs.contains c=true;show .inl ⟨_,_,_,Au b h⟩;show .inr ⟨1,Gu b e d (Xa.mpr f) (Xa.mpr g) (Xa.mpr h)⟩
end
theorem Jp(cs:Text):∀(n p:Nat),cs.length<=p+n->p<=cs.length->∃q,At cs p q:=by
 intro n
 induction n with
 |zero=>intro p b d;have:=abn d b;subst this;show⟨_,Wu _,Wu _,rfl,λc a=>by rw[Xh (Wu _)]at a;cases a⟩
 |succ n f=>
  intro p b d;by_cases b:p=cs.length
  . subst b;show⟨_,Wu _,Wu _,rfl,λc a=>by rw[Xh (Wu _)]at a;cases a⟩
  . have a:cs[p]? =some cs[p]:=Wr (by lia);generalize cs[p]=c at a;have b:=lR (gH a);by_cases n:blank c=true
    . rw[Wt n]at b;obtain⟨q,h⟩:=f (p+1) (by lia) (by lia);show⟨q,by have:=h.le;lia,h.len,by rw[b,h.eq],h.here⟩
    . by_cases e:(c==35)=true
      . rw[Wn n,Wt e]at b;have hw:=q_ (cs:=cs) (q:=p+1) (λx=>x !=10) (by lia);obtain⟨q,h⟩:=f (p+1+((cs.drop (p+1)).takeWhile λx=>x !=10).length) (by lia) hw;show⟨q,by have:=h.le;lia,h.len,by rw[b,h.eq],h.here⟩
      . show⟨p,Wu _,d,rfl,λc b=>by rw[a]at b;cases b;show⟨Xa.mpr n,Xa.mpr e⟩⟩
theorem Ld(e:p<=a.length):(∃q tok b w,q9 a q (tk a p) tok b w)∨∃q k,tk a p=[(q,.bad k)]:=by
 obtain⟨q,h⟩:=Jp a _ p (Nat.le_add_left _ _) e;rw[h.eq];rcases Lc h.len h.here with⟨tok,b,w,n⟩|⟨k,e⟩
 show .inl ⟨q,tok,b,w,n⟩;show .inr ⟨q,k,e⟩
theorem lS{tok:Tok}{w:Text}(n:q9 b q a tok e w):faultAt a=(if e= "end" then 4 else 3,q):=by obtain⟨a,e,_⟩:=n.ts;rw[e];cases n.held<;>rfl
theorem Nz(h:q<=a.length)(e:∀c,a[q]? =some c->blank c=false/\(c==35)=false):here (tk a q)=q/\∀c,signs.contains c=true->(isSign c (tk a q)=decide (a[q]? =some c)):=by
 cases b:a[q]? with
 |none=>
  have:q=a.length:=by
   have:=Yj.mp b
   lia
  subst this;rw[Lb];show⟨rfl,λc _=>by simp[isSign]⟩
 |some d=>
  obtain⟨h,g⟩:=e d b;by_cases q:small d=true;rw[tL b h g q];show⟨by split<;>rfl,λc a=> ?_⟩;have:c≠d:=λz=>by subst z;rw[(Jo q).2]at a;cases a
  split<;>simp[isSign,this.symm];by_cases e:digit d=true;rw[B4 b h g e];show⟨by split<;>rfl,λc a=> ?_⟩;have:c≠d:=λz=>by subst z;rw[(Aq e).2]at a;cases a
  split<;>simp[isSign,this.symm];by_cases f:signs.contains d=true;rw[Ia b f];show⟨rfl,λc a=> ?_⟩;change(c==d)=_;rw[Xg,XD,XG];show⟨λz=>by rw[z],λz=>(W5 z).symm⟩;rw[Gu b h g (Xa.mpr q) (Xa.mpr e) (Xa.mpr f)];show⟨rfl,λc a=> ?_⟩;have:c≠d:=λz=>by subst z;show f a
  simp[isSign,this.symm]
end PM
end
section
namespace DL
open PySem PySem.Spec PyProof.Rows L2 XL YL TL
theorem bN a b:(Str.ofString a=Str.ofString b)↔a=b:=by
 constructor;intro h;have a:=XE tl h;rw[cN,cN]at a
 have inj:∀{l m:ah Char},l.map Char.toNat=m.map Char.toNat->l=m:=by
  intro l
  induction l with
  |nil=>
   intro m e;cases m with
   |nil=>rfl
   |cons c m=>simp at e
  |cons d l h=>
   intro m e;cases m with
   |nil=>simp at e
   |cons c m=>
    rw[WM,WM]at e;injection e with b c
    rw[h c,Char.toNat_inj.mp b]
 show String.toList_inj.mp (inj a);rintro rfl;rfl
theorem rj(k f:Str)(v:V)(r:ah (Str×V)):List.lookup k ((f,v)::r)=if k=f then some v else List.lookup k r:=by rw[List.lookup];by_cases h:k=f;rw[Wt h,XD.mpr h];rw[Wn h,Xs.mpr h]
theorem Le k:List.lookup k ([]:ah (Str×V))=none:=rfl
theorem cW k f v z r:cA k z ((f,v)::r)=if f=k then(f,z)::r else(f,v)::cA k z r:=rfl
theorem iy k z:cA k z []=[(k,z)]:=rfl
theorem D0{fs:ah (Str×V)}(b:H x=none)(c:H a=none)(e:a≠x):aD H (upd (upd H a (.own x)) x (.ins C a fs))/\Ob (upd (upd H a (.own x)) x (.ins C a fs)) x C fs:=by show⟨λH o e=> ?_,a,av⟩;rw[aF (aA e b),aF (aA e c)];show e
theorem aD.ob{fs:ah (Str×V)}(s:aD H a)(h:Ob H b C fs):Ob a b C fs:=by obtain⟨a,e⟩:=h;show⟨a,s _ _ e⟩
section
variable{X:Cx}{C:ai}{f:Str}{o a:bx}{c b:TE}{d e g:Pos}
def R0(C:ai)(f:Str)(c b:TE):TS:=λD d H=>b d H λy h=>c d h λx e=>∃a g fs,x= .ref a/\e a=some (.ins C g fs)/\fs.length<1000/\D.nx d (upd e a (.ins C g (cA f y fs)))
theorem bX(l:BG X.K C)(u:bO X.K C f)(q:PE X o c)(s:PE X a b)(r:swapsWith a (some (.Attribute o f e)) d.line X.env=pure false):PS X (.Assign [.Attribute o f e] a d) (R0 C f c b):=by intro h B g H D I p;show Zg (dz (s B g H _ I p) λG D⟨J,h,i,A,w⟩=>dz (q D g h _ i w) λv F⟨x,E,j,z,k,dx,fs,n,m,t,y⟩=> ?_) r;subst n;obtain rfl:v=Value.ref k:=z;show uF j m l u t A λD h=>⟨g,_,h,y⟩
def Ib(C:ai)(f:Str)(c b:TE)(l:V->V->Hp->VK->Prop):TS:=λD e H=>c e H λx g=>∃a k fs v,x= .ref a/\g a=some (.ins C k fs)/\fs.lookup f=some v/\b e g λy j=>l v y j λz h=>∃i d,h a=some (.ins C i d)/\d.length<1000/\D.nx e (upd h a (.ins C i (cA f z d)))
theorem Jq(h:BG X.K C)(n:bO X.K C f)(r:PE X o c)(t:PE X a b)(s:Ri X H q):PS X (.AugAssign (.Attribute o f g) H a d) (Ib C f c b q):=by intro k x e H D I q;show wpAny_AugAssign_AttributeAny (dz (r x e H _ I q) λu y⟨z,i,j,w,k,D,fs,E,m,p,l,v⟩=> ?_);subst m;obtain rfl:u=Value.ref k:=w;show uD j p h n l λD A I x=>dz (t A e i _ I v) λF B⟨G,H,k,y,u⟩=>dz (s B e H E G D F _ k x y u) λN M⟨O,J,m,z,K,L,q,r,w⟩=> ?_;show uF m q h n r z λk H=>⟨e,_,H,w⟩
end
theorem Qg{K:ay}:(uH a P w K d b N g h f c A e s H E).K=K:=rfl
theorem Lf a b:Dl (.str a) (.str b)=true:=rfl
theorem Lg a b:Dl (.int a) (.int b)=true:=rfl
theorem NB a b:Dl (.bl a) (.bl b)=true:=rfl
end DL
end
section
namespace YL
open PySem PySem.Spec PyProof.Rows L2
theorem Lh{a:aS}{w:aU}{A:bC}{E:ak->aq->Prop}{s:aq}{t b:ai}{f:ah ak}{Q:ak->aq->Prop}(c:IsTup s.heap t ([]:ah ak).toArray)(h:IsTup s.heap b f.toArray)(g:Q (.ref b) s):wpAny (model a w) A (binaryOp .Add (.ref t) (.ref b)) Q E s:=by
 obtain⟨⟨cls,A,w,j⟩,d,s,n,a⟩:=id c;obtain⟨⟨w,E,data2,k⟩,e,Q,i,c⟩:=id h;simp only at s a Q c;subst s a Q c
 show concat_meets ⟨_,d,rfl⟩ ⟨_,e,rfl⟩ aa_ abH aa' aaZ (aaL _ _)
  (tuple_addW0 t b _ f.toArray n i A E j k rfl) ⟨d,e,g⟩
def Li(K:ay):R2:=λx y H Q=>∃c d a b,x= .ref c/\y= .ref d/\dO K H c a/\dO K H d b/\a.length+b.length<=sizeLine/\
 (a=[]->Q (.ref d) H)/\(a≠[]->b=[]->Q (.ref c) H)/\(a≠[]->b≠[]->∀p,H p=none->Q (.ref p) (upd H p (.tup (a++b))))
theorem D3:pR X (binaryOp .Add) (Li X.K):=by intro X s q H x y v u Q I e f h;obtain⟨X,b,g,p,rfl,rfl,c,d,i,l,m,n⟩:=h;by_cases a:g=[];cases e;cases f;obtain⟨h,o,j,_⟩:=I.tuple c;obtain⟨h,r,k,_⟩:=I.tuple d;have h:=(bW.tu o).mpr a;subst h;show Lh j k ⟨.ref b,H,I,rfl,l a⟩;show Nc s q H _ _ v u Q I e f ⟨X,b,g,p,rfl,rfl,c,d,a,i,m a,n a⟩
end YL
end
section
namespace YL
open PySem PySem.Spec PyProof.Rows L2
abbrev TK:=ai×Int×Int
def Qh(x y:TK):Prop:=x.2.1<y.2.1∨(x.2.1=y.2.1/\x.2.2<=y.2.2)
theorem B5{b c:Type}{f:b->c}{l x:ah c}(h:l.Perm x):∀m:ah b,x=m.map f->∃a :ah b,a.Perm m/\l=a.map f:=by
 induction h with
 |nil=>intro m e;show⟨[],by rw[List.map_eq_nil_iff.mp e.symm],rfl⟩
 |cons x _ h=>
  intro m e;cases m with
  |nil=>simp at e
  |cons b m=>
   rw[WM]at e;injection e with c d
   obtain⟨a,f,g⟩:=h m d;show⟨b::a,f.cons b,by rw[WM,<- g,c]⟩
 |swap x b l=>
  intro m e;cases m with
  |nil=>simp at e
  |cons b m=>
   cases m with
   |nil=>simp at e
   |cons a m=>simp only[WM,List.cons.injEq]at e;obtain⟨c,d,x⟩:=e;show⟨a::b::m,.swap b a m,by simp only[WM];rw[<- c,<- d,<- x]⟩
 |trans _ _ a b=>intro m e;obtain⟨h,f,g⟩:=b m e;obtain⟨c,b,x⟩:=a h g;show⟨c,b.trans f,x⟩
def Lj(K:ay):ah V->Hp->VK->Prop:=λp H Q=>∃(b:ai)(a:ah TK),p=[V.ref b]/\bG K H b (a.map λt=>V.ref t.1)/\(∀t∈a,dO K H t.1 [.int t.2.1,.int t.2.2])/\a.length<=1000/\
 ∀(b:ah TK)(p:ai),b.Perm a->b.Pairwise Qh->H p=none->Q (.ref p) (upd H p (.lst (b.map λt=>V.ref t.1)))
theorem Av:∀{b:ah ai}{c:ah ak},bW (b.map V.ref) c->c=b.map Value.ref
 |[],_,.nil=>rfl
 |a::b,_,.cons r t=>by rw[show(_:ak)=Value.ref a from r,Av t];rfl
theorem qi:∀(a:ah ai),bW (a.map V.ref) (a.map Value.ref)
 |[]=> .nil
 |_::a=> .cons rfl (qi a)
def R1:Nat->Bool:=λ_=>false
theorem Gv:fz X (.builtin "sorted") (Lj X.K):=by
 intro f s m H e a Q I r h;obtain⟨m,d,rfl,f,e,i,q⟩:=h;obtain⟨l,m,X,_⟩:=I.list f;rw[bW.BQ r];have f:(d.map λt=>V.ref t.1)=(d.map (·.1)).map V.ref:=by rw[WN];rfl
 rw[f]at m;have f:=Av m;subst f
 have one:∀t∈d,∃(o:aV)(n:Nat)(u v:Tok),s.heap.get? t.1=some o/\o.cls= .type "tuple"/\o.data= .seq #[.int t.2.1 u,.int t.2.2 v] n:=by
  intro t c;obtain⟨l,f,⟨o,m,i,n,j⟩,_⟩:=I.tuple (e t c);cases f with
  |cons e f=>
   cases f with
   |cons l f=>cases f;obtain⟨u,rfl⟩:=e;obtain⟨v,rfl⟩:=l;show⟨o,n,u,v,m,i,j⟩
 have g:∀t∈d,G.tupKeyC s.heap R1 (.ref t.1)=some [Sum.inl t.2.1,Sum.inl t.2.2]:=by intro t c;obtain⟨o,n,u,v,m,i,j⟩:=one t c;show G.tupKeyC_of m i j rfl
 have k:∀l:ah TK,(∀t∈l,t∈d)->∃fs,TupsOf s.heap R1 ((l.map (·.1)).map Value.ref) fs:=by
  intro l
  induction l with
  |nil=>intro _;show⟨[],.nil⟩
  |cons t l f=>intro c;obtain⟨fs,e⟩:=f λt h=>c t (Wz _ h);obtain⟨o,n,u,v,m,i,j⟩:=one t (c t WD);show⟨.int t.2.1 u::fs,.cons ⟨t.1,o,_,n,rfl,m,i,j,rfl,λ_=>⟨_,_,rfl⟩,λz=>by cases z⟩ e⟩
 obtain⟨fs,e⟩:=k d λt h=>h;have m:((d.map (·.1)).map Value.ref).length=d.length:=by simp
 show G.sorted_tups (shape:=R1) X.isList e ?_ (by rw[m,Wx];lia) ?_;intro v e;obtain⟨b,h,rfl⟩:=Wy.mp e;obtain⟨t,c,rfl⟩:=Wy.mp h;show⟨_,g t c⟩;intro st h u _;generalize arrOf st=o at h u
 have i:o.toList.Perm (d.map λt=>((Value.ref t.1,Value.ref t.1):Keyed)):=by
  have:=Array.perm_iff_toList_perm.mp h;rw[pairsOf_toList]at this
  have e:∀l:ah TK,((l.map (·.1)).map Value.ref).zip ((l.map (·.1)).map Value.ref)=l.map λt=>((Value.ref t.1,Value.ref t.1):Keyed):=by
   intro l
   induction l with
   |nil=>rfl
   |cons t l f=>simp only[WM,abP];rw[f]
  rw[e]at this;show this
 obtain⟨a,h,f⟩:=B5 i d rfl;have X:(o.map (·.2)).toList=(a.map (·.1)).map Value.ref:=by rw[Array.toList_map,f,WN,WN];rfl
 have k:a.Pairwise Qh:=by
  rw[List.pairwise_iff_getElem];intro i j l v r;have r:a.length=d.length:=h.length_eq;have:=u i j (by lia) (by rw[pairsOf_size,m];lia);have kk:∀(m:Nat)(c:m<a.length),KK (G.tupKindC s.heap R1) o m=[Sum.inl a[m].2.1,Sum.inl a[m].2.2]:=by intro m c;unfold KK;have e:o[m]? =some (Value.ref a[m].1,Value.ref a[m].1):=(by rw[<- abr,f,Ws,Wr c];rfl);rw[e];change(G.tupKeyC s.heap R1 (.ref a[m].1)).getD []=_;rw[g a[m] (h.mem_iff.mp (List.getElem_mem c))];rfl
  rw[kk i l,kk j v]at this;have this:lexLt itemOrd [Sum.inl a[j].2.1,Sum.inl a[j].2.2] [Sum.inl a[i].2.1,Sum.inl a[i].2.2]=false:=this;rw[lex_cons,lex_cons]at this;have f:(decide (a[j].2.1<a[i].2.1)||(!decide (a[i].2.1<a[j].2.1)&&(decide (a[j].2.2<a[i].2.2)||(!decide (a[i].2.2<a[j].2.2)&&false))))=false:=this;unfold Qh;simp only[aaw,Zz,Bool.not_eq_false',X8,XA]at f
  lia
 obtain⟨m,e⟩:=PyProof.Rows.sortedAll_at s.heap ((d.map (·.1)).map Value.ref) (o.map (·.2));have f:(a.map λt=>V.ref t.1)=(a.map (·.1)).map V.ref:=by rw[WN];rfl
 have i:(a.map λt=>V.ref t.1).length<=sizeLine:=by rw[Wl,h.length_eq,Wx];lia
 show⟨.ref _,upd H (s.heap.objs.size+1) (.lst (a.map λt=>V.ref t.1)),I.laid (t' :=s.toks) (λ_ _=>PyProof.Rows.sortedAll_old) (aaX _) ⟨i,(a.map (·.1)).map Value.ref,m,by rw[f];show qi _,?_⟩,rfl,q a _ h k (I.dD.fresh (aaX _))⟩;rw[e,<- X]
def Qi(K:ay)(b:ai)(k:Key)(v:V):Prop:=∀(P:aS)(w:aU)(h:aX),K.In h->∃a u,h.DictOf (bY P w) b a/\valueAt a k=some u/\RelV v u
def Oz(K:ay)(e f:TE):TE:=λb H Q=>e b H λx c=>f b c λy d=>∃a k v,x= .ref a/\y=kV k/\Qi K a k v/\Q v d
theorem NC(l:PE X o b)(k:PE X i a)(m:autoParam (PK i) cL._auto_9):PE X (.Subscript o i Q) (Oz X.K b a):=by intro i s b H Q I j;show HL F.slot_dict_getitem.lookup m (dz (l s b H _ I j) λu r⟨x,i,d,p,o⟩=>dz (k r b i _ d o) λQ t⟨y,c,a,q,e,w,v,f,g,h,n⟩=> ?_);subst f g;obtain rfl:u=Value.ref e:=p;obtain⟨Q,o,b,hw,i⟩:=h X.prog X.w t.heap a.ur;show⟨b.typeIs,wpAny_getItem_of (qa q) b.mapOf hw ⟨v,c,a.tok _,i,n⟩⟩
end YL
end
section
namespace YL
open PySem PySem.Spec PyProof.Rows L2
open AutoSeq1 (wpAny_loadPart')
section
variable{a:aS}{w:aU}{A:bC}{E:ak->aq->Prop}{s:aq}
theorem Gw{b t:ai}(e:IsTupIter s.heap b t i)(h:IsTup s.heap t c)(j:c[i]? =some x)
 (k:∀c,IsTupIter c b t (i+1)->Heap.SameBut b s.heap c->Q x {s with heap:=c}):wpAny (model a w) A (Builtin.SmallTypes.nextOf (.ref b)) Q E s:=by
 obtain⟨z,d,Q,c⟩:=id e;obtain⟨l,g,_,z,f⟩:=h;unfold Builtin.SmallTypes.nextOf;show Wm (X5 (name:=Str.ofString "__next__") e.typeIs ZS (Yb ZS e.typeIs entry_tupleiter_next ?_ (args_tupleiter_next _)));change wpAny _ _ (field (.ref b) 0>>=_) _ _ s;show Wm (Yl d c (x:= .ref t) rfl ?_);change wpAny _ _ (if(Value.ref t==Value.none)=true then _ else _) _ _ s;rw[Wn (by intro z;cases z)];change wpAny _ _ (field (.ref b) 1>>=_) _ _ s;show Wm (Yl d c (x:= .int i 0) rfl ?_);change wpAny _ _ (seqItems? (.ref t)>>=_) _ _ s;show Wm (abw g f ?_);simp only[WQ,j];show Wm (Y5 d c (by simp) (Ww ⟨x,rfl,Ww (k _ ⟨_,Y6 _ d (Zy (YD c _)),(Obj.cls_mapFields ..).trans Q,?_⟩ (Zi ..))⟩));rw[YD c];simp[rawInt]
theorem u5{b t:ai}(f:A.handled=none)(e:IsTupIter s.heap b t i)(h:IsTup s.heap t c)(j:c[i]? =none)
 (k:∀c d,Heap.ExtBut b s.heap c->(∃o,c.get? d=some o/\o.cls= .type "StopIteration")->E (.ref d) {s with heap:=c}):wpAny (model a w) A (Builtin.SmallTypes.nextOf (.ref b)) Q E s:=by
 obtain⟨z,d,o,c⟩:=id e;obtain⟨Q,g,_,z,o⟩:=h;unfold Builtin.SmallTypes.nextOf;show Wm (X5 (name:=Str.ofString "__next__") e.typeIs ZS (Yb ZS e.typeIs entry_tupleiter_next ?_ (args_tupleiter_next _)));change wpAny _ _ (field (.ref b) 0>>=_) _ _ s;show Wm (Yl d c (x:= .ref t) rfl ?_);change wpAny _ _ (if(Value.ref t==Value.none)=true then _ else _) _ _ s;rw[Wn (by intro z;cases z)];change wpAny _ _ (field (.ref b) 1>>=_) _ _ s;show Wm (Yl d c (x:= .int i 0) rfl ?_);change wpAny _ _ (seqItems? (.ref t)>>=_) _ _ s;show Wm (abw g o ?_);simp only[WQ,j];show Wm (wpAny_rule (Wm (Y5 d c (by simp) ?_)));change wpAny _ _ (newExc (.type "StopIteration") []>>=_) _ _ _;show Wm ?_;simp only[newExc,newTuple];show Wm (Xp ?_ (by size_fits));show Wm (m:=firstArgMember _ _) (wpAny_of_eq (a:=Value.none) (by first|rfl|(simp only[firstArgMember];rfl)) ?_);show Xp ?_ (by size_fits);simp only[raiseNew];show Wm (abI ?_);first|rw[show A.in1.handled=none from f]|rw[f]
 show Wm (Ww (wpAny_throw (k _ _ (((Zi ..).extBut.push _).push _) ⟨_,WH _ rfl,rfl⟩)))
theorem D4(g:A.handled=none) b t(j:t≠b) c:Draws a w A b [b,t] c.size (λi v=>c[i]? =some v) (λi h=>IsTupIter h b t i/\IsTup h t c)where
 live:=λ_ _ st=>let⟨o,d,_⟩:=st.1;⟨o,d⟩
 frame:=λ_ _ _⟨⟨o,d,h⟩,⟨p,e,f⟩⟩ kk=>⟨⟨o,kk b (by simp) o d,h⟩,⟨p,kk t (by simp) p e,f⟩⟩
 item:=λi s Q E b st kk=>by show Gw st.1 st.2 (x:=c[i]) (by simp[b]) λh o d=>kk _ h s.toks (by simp[b]) ⟨o,?_⟩ d;obtain⟨p,e,f⟩:=st.2;show⟨p,d.extBut t p j e,f⟩
 done:=λs Q E st kk=>u5 g st.1 st.2 (by simp) kk
end
theorem D5 l c n f j:
 Meets (Builtin.«enumerate.__new__» ⟨[.type "enumerate",.ref l],[]⟩) (λ_ R s=>s.heap.get? l=some {cls:= .type "tuple",dict:=f,data:= .seq c n,slots:=j}/\
  R (.ok (.ret (.ref (s.heap.push {cls:= .type "tuple_iterator",data:= .fields #[.ref l,.int 0 0]}).objs.size)))
   {s with heap:=(s.heap.push {cls:= .type "tuple_iterator",data:= .fields #[.ref l,.int 0 0]}).push {cls:= .type "enumerate",data:= .fields #[.none,.bool false,.ref s.heap.objs.size,rawInt 0,.none,.none]}}):=
 .of_wp λm w A R s h=>by
  obtain⟨i,g,e,tk,os⟩:=s;obtain⟨a,h⟩:=h;have k:=sub_enumerate;have b:IsTup (Shared.heap ⟨i,g,e,tk,os⟩) l c:=⟨_,a,rfl,n,rfl⟩
  wp_walk using ZW a
  show wpAny_stack_any λst=>Ww (?_:_);split
  . rename_i d _ _ _ _ _;cases(d==Value.type "enumerate")
    all_goals
     wp_walk using ZW a,iter_tuple b
     show⟨_,rfl,h⟩
  wp_walk using ZW a,iter_tuple b
  show⟨_,rfl,h⟩
section
variable{a:aS}{w:aU}{A:bC}{E:ak->aq->Prop}{s:aq}
theorem Gx(h:IsTup s.heap l e)
 (k:∀b,IsEnum b (s.heap.objs.size+1) s.heap.objs.size 0 .none->IsTupIter b s.heap.objs.size l 0->b.objs.size=s.heap.objs.size+2->(∀c o,s.heap.get? c=some o->b.get? c=some o)->Q (.ref (s.heap.objs.size+1)) {s with heap:=b}):
 wpAny (model a w) A (call (.type "enumerate") [.ref l]) Q E s:=by
 obtain⟨⟨Q,f,g,j⟩,i,b,n,d⟩:=h;replace b:Q= .type "tuple" :=b;replace d:g= .seq e n:=d;subst b d;show callType_new F.called_enumerate (by decide) (F.typeCall_enumerate_1 _) (F.newCall_enumerate_1 _) (λb=>F.args_object_init_2 b _) F.entry_enumerate_new (D5 l e n f j) ⟨i,?_⟩;have b:(s.heap.push {cls:= .type "tuple_iterator",data:= .fields #[.ref l,.int 0 0]}).objs.size=s.heap.objs.size+1:=XR ..;rw[b];have d:IsEnum ((s.heap.push {cls:= .type "tuple_iterator",data:= .fields #[.ref l,.int 0 0]}).push {cls:= .type "enumerate",data:= .fields #[.none,.bool false,.ref s.heap.objs.size,rawInt 0,.none,.none]}) (s.heap.objs.size+1) s.heap.objs.size 0 .none:=by have:=WH (s.heap.push {cls:= .type "tuple_iterator",data:= .fields #[.ref l,.int 0 0]}) (o:={cls:= .type "enumerate",data:= .fields #[.none,.bool false,.ref s.heap.objs.size,rawInt 0,.none,.none]}) rfl;rw[b]at this;show this
 show⟨⟨_,d,rfl⟩,k _ d ⟨_,Wv _ (WH _ rfl),rfl,rfl⟩ (by rw[XR,b]) λc o x=>Wv _ (Wv _ x)⟩
end
def Ln(K:ay)(b:ai)(a:ah V):It:=
 ⟨λi H=>dO K H b a/\i<a.length,λi H v c =>∃T x,v= .ref T/\H T=none/\c =upd H T (.tup [.int (i:Nat),x])/\a[i]? =some x,λi H=>dO K H b a/\a.length=i⟩
theorem Gy{K:ay}{kk:Nat} g e a(f:bW N y)(F:g≠a)(C:g≠e):
 qW P w K (.Tuple n kk j) (Ln K g N) [e,a] e (λi h=>(∃k,IsEnum h e a ((i:Nat):Int) k)/\IsTupIter h a g i/\e≠a)where
 mem:=by simp
 obj:=λi h st d b=>by
  obtain⟨⟨k,c⟩,⟨o,y,l,n⟩,_⟩:=st;rcases WB.mp b with z|z
  . rw[z];show⟨_,c,λv q=>nomatch q⟩
  rw[Xd.mp z];show⟨o,y,λv q=>by rw[n]at q;cases q⟩
 keep:=λi h r st j=>let⟨⟨k,c⟩,⟨o,y,n⟩,f⟩:=st;⟨⟨k,j e (by simp) _ c⟩,⟨o,j a (by simp) o y,n⟩,f⟩
 item:=by
  intro X u hw t l i M s O H E I m st v;subst u hw t;obtain⟨⟨k,c⟩,hit,f⟩:=st;obtain⟨w,U⟩:=v;obtain⟨j,p,B,W⟩:=I.tuple w;have T:=p.length;have G:=WR c;have R:a<s.heap.objs.size:=by obtain⟨_,q,_⟩:=hit;show WR q
  show wpAny_pyNext_enum_itemD (D4 (A:=X.A.in1) (I.ok.hd l) a g F j.toArray) c ⟨hit,B⟩ (by simp;lia) f (by simp[f,Yt C]) λx r tk n y V L J S=> ?_;show⟨_,rfl,aaP (s:={s with heap:=r,toks:=tk+1}) y λD Q C=> ?_⟩;have P:=(C.2 _ (YH G)).trans L;obtain⟨y,L⟩:∃y,N[i]? =some y:=⟨_,Wr U⟩;obtain⟨Z,N,Y⟩:=p.get L;have U:x=Z:=by have n:j.toArray[i]? =some x:=n;rw[List.getElem?_toArray,N]at n;show(W5 n).symm
  subst U
  have new:dw X.prog X.w (upd H s.heap.objs.size (.tup [.int (i:Nat),y])) D s.heap.objs.size (.tup [.int (i:Nat),y]):=
   ⟨by change 2<=sizeLine;decide,[.int i tk,x],.cons ⟨_,rfl⟩ (.cons Y .nil),⟨_,P,rfl,_,rfl⟩⟩
  have n:Inv X M O (upd H s.heap.objs.size (.tup [.int (i:Nat),y])) {s with heap:=D,toks:=tk+1}:=
   I.nW (ch:=[e,a]) (λd ob b q=>(C.2 d (λz=>b (by simp[z]))).trans (S d ob (λz=>b (by simp[z])) (λz=>b (by simp[z])) q)) m (Wu _) new
  show⟨.ref s.heap.objs.size,_,n,rfl,⟨_,y,rfl,I.dD.fresh (Wu _),rfl,L⟩,⟨⟨x,?_⟩,?_,f⟩,λd b=> ?_⟩;rw[show((i+1:Nat):Int)=(i:Int)+1 by lia];show Q;obtain⟨o,n,y⟩:=V.1;show⟨o,(C.2 a (Yt f)).trans n,y⟩
  have n :d<s.heap.objs.size:=by
   rcases WB.mp b with z|z
   rw[z];show G;rw[Xd.mp z];show R
  rw[aF (W6 n)];show(m d b).1
 done:=by
  intro X u hw t l i M s O H E I m st v;subst u hw t;obtain⟨⟨k,c⟩,hit,f⟩:=st;obtain⟨w,n⟩:=v;obtain⟨j,p,B,W⟩:=I.tuple w;have T:=p.length;obtain⟨y,e,n,f,k,p⟩:=m a (by simp);have J:j.toArray.size=i:=by simp;lia
  show wpAny_pyNext_enum_endD (n:=j.toArray.size) (D4 (A:=X.A.in1) (I.ok.hd l) a g F j.toArray) c (by rw[J];show⟨hit,B⟩) λr n=>⟨rfl,I.turned (t' :=s.toks) (λd o b q=>n d o b q) y e f k p⟩
 self:=λA i s Q E st h=>let⟨⟨_,c⟩,_⟩:=st;aag c h
def Qj(K:ay)(d:TA):TI:=λf H R=>d f H λe b=>∃a c,e=[.ref a]/\dO K b a c/\R (Ln K a c) b
theorem Lp{kk:Nat}(b:Gl X "enumerate")(d:X.mg "enumerate" =none)(z:PA X [e] r)(q:autoParam (starEach [e] X.env=[(false,eval e X.env)]) cL._auto_6):
 PI X (.Tuple h kk g) (.Call (.Name "enumerate" p) [e] [] f) (Qj X.K r):=by
 intro e s g H R I h;show Call_ (qV I b d boot_enumerate (Ys (dz (z e s g H _ I h) λp a⟨R,c,X,r,f⟩=> ?_) q rfl));obtain⟨e,h,z,d,q⟩:=f;subst z;cases r with
 |cons r z=>
  cases z;cases r;obtain⟨h,r,b,z⟩:=X.tuple d;have I:e<a.heap.objs.size:=by obtain⟨_,q,_⟩:=id b;show WR q
  show Gx b λf z hit g d=>aag z ⟨a.heap.objs.size+1,[a.heap.objs.size+1,a.heap.objs.size],_,_,c,rfl,X.kept (t' :=a.toks) d,Gy e (a.heap.objs.size+1) a.heap.objs.size r (W6 I) (W6 (aac I)),⟨⟨.none,z⟩,hit,Nat.succ_ne_self _⟩,λH h=> ?_,q⟩
  have e:a.heap.objs.size<=H:=by
   rcases WB.mp h with z|z
   rw[z];show Nat.le_add_right _ _;rw[Xd.mp z];show Wu _
  show X.I1 e (X.dD.fresh e)
end YL
end
section
namespace YL
open PySem PySem.Spec PyProof.Rows L2
section
variable{a:aS}{w:aU}{A:bC}{E:ak->aq->Prop}{s:aq}
theorem Jr(a:s.heap.get? d=some b)(c:b.ExactDict):s.TypeIs (.ref d) "dict" :=⟨b,a,c.1⟩
theorem B6 d(c:(d==sysModules)=false):
 MeetsIn a w (Builtin.«dict.items» ⟨[.ref d],[]⟩) (λ_ R s=>s.TypeIs (.ref d) "dict"/\R (.ok (.ret (.ref s.heap.objs.size))) {s with heap:=s.heap.push {cls:= .type "dict_items",data:= .fields #[.ref d]}}):=
 .of_wp λA R s⟨b,k⟩=>by unfold Builtin.«dict.items»;show Wm ?_;unfold Builtin.Dict.noArgs;show Wm (aal b ?_);show Ww ?_;unfold Builtin.Dict.showsAll;rw[Wn (by rw[c];intro z;cases z)];show Wm (Ww (Wm (Xp (Ww ⟨_,rfl,k⟩))))
theorem D6(b:s.heap.IsItemsView v d)(e:s.heap.get? d=some h)(c:h.data= .dict g f)
 (k:Q (.ref s.heap.objs.size) {s with heap:=s.heap.push {cls:= .type "dict_itemiterator",data:= .fields #[.none,.bool false,.ref d,.int 0 0,.int g.size 0,.int f 0,.none,.none]}}):wpAny (model a w) A (pyIter (.ref v)) Q E s:=by
 obtain⟨h,g,_,f⟩:=id b;show aa0 b.typeIs F.slot_dict_items_iter (Yb F.slot_dict_items_iter b.typeIs F.entry_dict_items_iter (?_:wpAny _ _ _ _ _ _) (F.args_dict_items_iter_1 _));unfold Builtin.«dict_items.__iter__»;show Wm (Ww (Wm ?_));unfold Builtin.Dict_items.dictOf;show Wm (Yl g f (x:= .ref d) rfl (Ww (Wm ?_)));unfold Builtin.Dict_items.newIterator;show Wm (YT e c (Wm (Zx e c ?_)));have f:Builtin.Dict_items.ownsTuple "dict_itemiterator" =true:=by decide+kernel
 simp only[f,Za];show Xp (Ww ⟨_,rfl,"dict_itemiterator",_,⟨_,WH _ rfl,rfl⟩,Ym.lookup,(?_:Q _ _)⟩) (by simp only[sizeOk,Builtin.Dict_items.ownedTupleFields,WU,WY,WG,Xj,Wx];lia);simpa[rawInt,Builtin.Dict_items.ownedTupleFields]using k
theorem D7{ok t:ak}(k:IsItemIter s.heap b e i f.size h ok t)(l:s.heap.get? e=some j)(n:j.data= .dict f h)(r:f[i]? =some c)
 (z:∀j,IsItemIterOut j b e (i+1) f.size h c.key c.val s.heap.objs.size->j.get? s.heap.objs.size=some {cls:= .type "tuple",data:= .seq #[c.key,c.val]}->j.objs.size=s.heap.objs.size+1->
   (∀d o,d≠b->s.heap.get? d=some o->j.get? d=some o)->Q (some (.ref s.heap.objs.size)) {s with heap:=j}):wpAny (model a w) A (pyNext (.ref b)) Q E s:=by
 obtain⟨g,q,m,tk,os⟩:=s;have j:Shared.TypeIs ⟨g,q,m,tk,os⟩ (.ref b) "dict_itemiterator" :=⟨_,k,rfl⟩;unfold pyNext;show Wm (aa4 (X5 (name:=Str.ofString "__next__") j Ym (Yb Ym j aar ?_ (aak _))));show Wm (Ww (Wm (Wm ?_)))
 first|show Wm (YF j (Ww (Wm (ZI k rfl ?_))))|show Wm (Y9 j (Ww (Wm (ZI k rfl ?_))))
 have p:Builtin.Dict_items.ownsTuple "dict_itemiterator" =true:=by decide+kernel
 simp only[p,Za];change wpAny _ _ (if(Value.ref e==Value.none)=true then _ else _) _ _ _;rw[Wn (by intro p;cases p)];show Wm (Ww (Wm (YT l n ?_)));rw[Wn (by simp)];show Wm (Ww (Wm (Zx l n ?_)));rw[Wn (by simp)];show Ww ?_;have n:=(Xz.mp r).1;simp only[show¬((i:Int)<0)from by lia,YN,WQ,r];show Wm ?_
 first|show Wm (YF j (Ww (Wm (Zu j ?_))))|show Wm (Y9 j (Ww (Wm (Zu j ?_))))
 change wpAny _ _ (setField (.ref b) 3 (rawInt ((i:Int)+1))>>=_) _ _ ⟨g,q,m,tk,os⟩;show Wm (Zv k (by simp) λj n l=> ?_);replace l:Heap.SameBut b g j:=l;replace n:IsItemIter j b e (i+1) f.size h ok t:=by unfold IsItemIter;rw[show((i+1:Nat):Int)=(i:Int)+1 by lia];simpa[rawInt]using n
 have y:Shared.TypeIs ⟨j,q,m,tk,os⟩ (.ref b) "dict_itemiterator" :=⟨_,n,rfl⟩;show Wm (YY (Wm (Zu y (Wm (Zu y ?_)))));change wpAny _ _ (Builtin.Dict_items.pairFromOwner (.ref b) 6 c.key c.val) _ _ ⟨j,q,m,tk,os⟩;unfold Builtin.Dict_items.pairFromOwner;show Wm (wpAny_newTuple ?_);have p:IsItemIter (j.push {cls:= .type "tuple",data:= .seq #[c.key,c.val]}) b e (i+1) f.size h ok t:=Wv _ n;generalize u:j.push {cls:= .type "tuple",data:= .seq #[c.key,c.val]}=r at p;have v:j.objs.size=g.objs.size:=l.1;have Q:=WR k;have C:r.get? g.objs.size=some {cls:= .type "tuple",data:= .seq #[c.key,c.val]}:=by rw[<- u,<- v];show WH _ rfl
 have D:r.objs.size=g.objs.size+1:=by rw[<- u,XR,v]
 have B:∀d o,d≠b->g.get? d=some o->r.get? d=some o:=λd o k x=>by rw[<- u];show Wv _ (l.extBut d o k x)
 change wpAny _ _ (Builtin.Dict_items.ownedTupleIsFree (.ref b)>>=_) _ _ ⟨r,q,m,tk,os⟩;rw[v];clear u n l y v j;show Wm ?_;unfold Builtin.Dict_items.ownedTupleIsFree;show Wm (Yl p rfl (x:= .none) rfl (Ww ?_));simp only[Za];show Wm (Yl p rfl (x:=ok) rfl (Wm (Yl p rfl (x:=t) rfl ?_)));show Wm (Zv p (by simp) λq m j=> ?_);replace j:Heap.SameBut b r q:=j;replace m:IsItemIter q b e (i+1) f.size h c.key t:=m;show Wm (Zv m (by simp) λr n l=> ?_);replace l:Heap.SameBut b q r:=l;replace n:IsItemIter r b e (i+1) f.size h c.key c.val:=n;show Wm (Zv n (by simp) λt p m=> ?_);replace m:Heap.SameBut b r t:=m;replace p:IsItemIterOut t b e (i+1) f.size h c.key c.val g.objs.size:=p;show Wm (Zv p (by simp) λr q n=> ?_);replace n:Heap.SameBut b t r:=n;replace q:IsItemIterOut r b e (i+1) f.size h c.key c.val g.objs.size:=q;have b:=YH Q;show Wm (wpAny_letGo (Ww (Ww ⟨_,rfl,Ww (z r q (n.extBut _ _ b (m.extBut _ _ b (l.extBut _ _ b (j.extBut _ _ b C)))) ?_ λd o k x=>n.extBut d o k (m.extBut d o k (l.extBut d o k (j.extBut d o k (B d o k x)))))⟩)));rw[n.1,m.1,l.1,j.1,D]
theorem D8{ok m:ak}(j:A.handled=none)(c:IsItemIter s.heap d e i b.size h ok m)(g:s.heap.get? e=some l)(f:l.data= .dict b h)(k:b.size<=i)
 (l:∀b,Heap.ExtBut d s.heap b->Q none {s with heap:=b}):wpAny (model a w) A (pyNext (.ref d)) Q E s:=by
 have b:s.TypeIs (.ref d) "dict_itemiterator" :=⟨_,c,rfl⟩;unfold pyNext;show Wm (aa4 (X5 (name:=Str.ofString "__next__") b Ym (Yb Ym b aar ?_ (aak _))));show Wm (Ww (Wm (Wm ?_)))
 first|show Wm (YF b (Ww (Wm (ZI c rfl ?_))))|show Wm (Y9 b (Ww (Wm (ZI c rfl ?_))))
 have h:Builtin.Dict_items.ownsTuple "dict_itemiterator" =true:=by decide+kernel
 simp only[h,Za];change wpAny _ _ (if(Value.ref e==Value.none)=true then _ else _) _ _ _;rw[Wn (by intro z;cases z)];show Wm (Ww (Wm (YT g f ?_)));rw[Wn (by simp)];show Wm (Ww (Wm (Zx g f ?_)));rw[Wn (by simp)];show Ww ?_;simp only[show¬((i:Int)<0)from by lia,YN,WQ,Zt k];show Wm ?_
 first|show Wm (YF b (Ww (?_:_)))|show Wm (Y9 b (Ww (?_:_)))
 change wpAny _ _ (setField (.ref d) 2 .none>>=_) _ _ s;show Wm (Y5 c rfl (by simp) ?_);change wpAny _ _ (newExc (.type "StopIteration") []>>=_) _ _ _;show Wm ?_;simp only[newExc,newTuple];show Wm (Xp ?_ (by size_fits));show Wm (m:=firstArgMember _ _) (wpAny_of_eq (a:=Value.none) (by first|rfl|(simp only[firstArgMember];rfl)) ?_);show Xp ?_ (by size_fits);simp only[raiseNew];show Wm (abI ?_);rw[show A.in1.handled=none from j];show Wm (Ww (wpAny_throw (?_:_)));show Wm (wpAny_isInstance (T:= "StopIteration") (b:=true) ⟨_,WH _ rfl,rfl⟩ isSubtype_stop (?_:_));show Ww (l _ (((Zi ..).extBut.push _).push _))
end
def Qk(d:ai)(o:aV)(a:ah (ah Key×V)):It:=
 ⟨λi H=>H d=some (.dI o (.dT a))/\i<a.length,λi H x b =>∃(T q:ai)(k:ah Key)(v:V),a[i]? =some (k,v)/\H q=some (.tup (k.map kV))/\x= .ref T/\H T=none/\b =upd H T (.tup [.ref q,v]),λi H=>H d=some (.dI o (.dT a))/\a.length<=i⟩
theorem Lq{X:Cx}{a:ah (ai×aV)}{b:L2.St}{H:Hp}{s:aq}{d:ai}{o:aV}{c:ah (ah Key×V)}(I:L2.Inv X a b H s)(h:H d=some (.dI o (.dT c))):
 (d==sysModules)=false/\s.heap.get? d=some o/\o.ExactDict/\∃(a:Array DictEntry)(b:Nat),o.data= .dict a b/\a.size=c.length/\
   ∀(i:Nat)(k:ah Key)(v:V),c[i]? =some (k,v)->∃(o:DictEntry)(q:ai),a[i]? =some o/\o.key= .ref q/\H q=some (.tup (k.map kV))/\RelV v o.val:=by
 obtain⟨o,z,f,l,e,j,a,b,H,g,X,c,_⟩:=I.dD d _ h;rw[o]at H;cases H;show⟨f,o,g,a,b,X,?_,λi k v H=> ?_⟩;rw[abm c,<- XI e];obtain⟨b,h,X,o,a⟩:=b_ e H;have q:=entry_at c i;rw[h]at q;show⟨_,b.2.1,q,rfl,o,a⟩
theorem D9{K:ay}{kk:Nat} b(l:xA.data= .dict z L)(xO:z.size=w.length):
 qW xJ xR K (.Tuple xM kk xQ) (Qk d xA w) [b] b (λi h=>∃ok f,IsItemIter h b d i z.size L ok f)where
 mem:=by simp
 obj:=λi h st c a=>by obtain⟨ok,f,e⟩:=st;rw[Xd.mp a];show⟨_,e,λv xF=>nomatch xF⟩
 keep:=λi h n st m=>let⟨ok,f,e⟩:=st;⟨ok,f,m b (by simp) _ e⟩
 item:=by intro X p hw o A i xC s xG H E I k st t;subst p hw o;obtain⟨q,B⟩:=t;obtain⟨xr,u,xx,N,M,r,xu,y⟩:=Lq I q;obtain⟨rfl,rfl⟩:=iU l r;obtain⟨⟨m,v⟩,C⟩:∃xB,w[i]? =some xB:=⟨w[i],Wr B⟩;obtain⟨g,x,Z,xh,xq,xE⟩:=y i m v C;obtain⟨ok,f,j⟩:=st;have D:b<s.heap.objs.size:=WR j;show D7 j u l Z λn xj U xP xg=>⟨_,rfl,aaG (s:={s with heap:=n}) xj λT Y F=> ?_⟩;have V:=(F.2 _ (YH D)).trans U;have new:dw X.prog X.w (upd H s.heap.objs.size (.tup [.ref x,v])) T s.heap.objs.size (.tup [.ref x,v]):=⟨by change 2<=sizeLine;decide,[g.key,g.val],.cons xh (.cons xE .nil),⟨_,V,rfl,_,rfl⟩⟩;have G:=I.nW (t' :=s.toks) (ch:=[b]) (λc ob a e=>(F.2 c (by simpa using a)).trans (xg c ob (by simpa using a) e)) k (Wu _) new;show⟨.ref s.heap.objs.size,_,G,rfl,⟨_,x,m,v,C,xq,rfl,I.dD.fresh (Wu _),rfl⟩,⟨g.key,g.val,Y⟩,λc a=> ?_⟩;rw[Xd.mp a,aF (W6 D)];show(k b (by simp)).1
 done:=by intro X p hw o A i xC s xG H E I k st t;subst p hw o;obtain⟨q,B⟩:=t;obtain⟨O,P,xN,Q,R,S⟩:=k b (by simp);obtain⟨xr,u,xx,N,M,r,xu,y⟩:=Lq I q;obtain⟨rfl,rfl⟩:=iU l r;obtain⟨ok,f,j⟩:=st;show D8 (I.ok.hd A) j u l (by lia) λn J=>⟨rfl,I.turned (t' :=s.toks) (λc ob a e=>J c ob a e) O P Q R S⟩
 self:=λxH i s xK E st h=>let⟨_,_,e⟩:=st;W.kcp_self e h
def ND(c:TE):TI:=λe H R=>c e H λx a=>∃d o b,x= .ref d/\a d=some (.dI o (.dT b))/\R (Qk d o b) a
theorem Js{kk:Nat}(g:PE X e I)(b:autoParam (attributeBase e "items" X.env (eval e X.env)=eval e X.env) cL._auto_6)(m:autoParam ((h.endLine==H.line)=true) cL._auto_6):
 PI X (.Tuple l kk p) (.Call (.Attribute e "items" h) [] [] H) (ND I):=by
 intro i s c H R I e;show ZD (T:= "dict") (id:= "dict.items") b rfl m ZE aaf F.type_dict_items (dz (g s c H _ I e) λu a⟨x,j,f,n,d,o,r,h,k,q⟩=> ?_);subst h;obtain rfl:u=Value.ref d:=n;obtain⟨m,b,h,n,e,g,I,H⟩:=Lq f k;have e:=Jr b h;show⟨e,λH q=> ?_,?_⟩;cases q;show⟨o,b,h.2.1⟩;have h:Inv X i c j {a with heap:=a.heap.push {cls:= .type "dict_items",data:= .fields #[.ref d]}}:=f.kept (t' :=a.toks) λH ob q=>Wv _ q;have H:wpAny (model X.prog X.w) X.A (pyIter (.ref a.heap.objs.size)) (QI X i c (.Tuple l kk p) R) X.xe {a with heap:=a.heap.push {cls:= .type "dict_items",data:= .fields #[.ref d]}}:=by show D6 (d:=d) ⟨_,WH _ rfl,rfl,rfl⟩ (Wv _ b) g (nc (tk:=a.toks) h _ (D9 _ g I) ⟨.none,.none,WH _ rfl⟩ q)
 show aaO aaf F.entry_dict_items rfl (Zh ⟨rfl,e,F.args_dict_items_1 _,_,B6 d m,e,H⟩)
end YL
end
section
namespace YL
open PySem PySem.Spec PyProof.Rows L2
open AutoSeq1
theorem NF l a n k b f c g(s:¬(!a.isEmpty&&Builtin.List.listTooLong (a.size+b.size))=true)(d:a.size<=sizeLine)(e:a.size+b.size<=sizeLine+1):
 Meets (Builtin.«list.extend» ⟨[.ref l,.ref k],[]⟩) (λ_ R s=>s.heap.get? l=some {cls:= .type "list",dict:=none,data:= .seq a n,slots:= #[]}/\s.heap.get? k=some {cls:= .type "tuple",dict:=c,data:= .seq b f,slots:=g}/\R (.ok (.ret Value.none)) {s with heap:=s.heap.update l (Obj.mapSeq λx=>x++b),toks:=s.toks}):=
 .of_wp λf w A R s k=>by
  obtain⟨n,g,f,tk,os⟩:=s;obtain⟨l,c,k⟩:=k;have f:=idx_int;have s:=AutoSeq1.sub_tuple_tuple;have g:=AutoSeq1.sub_list_list;have n:=AutoSeq1.sub_tuple_list;have x:=AutoSeq1.sub_list_tuple;have s :(a++b).size<=sizeLine+1:=by rw[Array.size_append];show e
  wp_walk using(wpAny_updateSeq l rfl (hz:=d) (_hz' :=s)),ZW l,ZW c;show⟨_,rfl,k⟩
def Lr:V->ah V->Hp->VK->Prop:=λx d H Q=>∃l c a b,x= .ref l/\d=[.ref c]/\H l=some (.lst a)/\H c=some (.tup b)/\a.length+b.length<=sizeLine/\Q .non (upd H l (.lst (a++b)))
theorem Gz:SM X "list.extend" Lr:=by
 intro b s g H x e v c Q I f d a;obtain⟨l,h,xs,b,rfl,rfl,c,k,H,q⟩:=a;cases f;obtain⟨u,rfl,a⟩:=d.one;cases a;obtain⟨z,a,n,r,d,e⟩:=I.Ga c;obtain⟨b,g,⟨⟨cls,i,H,o⟩,j,d,m,f⟩,Q⟩:=I.tuple (dO.of k);simp only at d f;subst d f;have d:=g.length;have f:a.toArray.size+b.toArray.size<=sizeLine:=by rw[WU,WU];lia
 have d:¬(!a.toArray.isEmpty&&Builtin.List.listTooLong (a.toArray.size+b.toArray.size))=true:=by rw[Dt f,aaN];intro z;cases z
 show aaM Yg ⟨_,e,rfl⟩ F.entry_list_extend (F.args_list_extend_2 _ _) (NF l a.toArray n h b.toArray m i o d (by rw[WU];lia) (by lia)) ⟨e,j,?_⟩;show⟨.non,_,I.Nj (its' :=a++b) c e (by simp) (r.append g) ?_,rfl,q⟩;rw[WY];lia
end YL
end
section
namespace DL
open PySem PySem.Spec PyProof.Rows L2 XL YL TL
open VauowBase (Away Broken Column Db Fault IDS ROWS RawColumn RawKind RawTable Row Schema TEXT TOP Table TextFault Tok Toks allRows ascii blank brokenFrom brokenIn brokenKind brokenRow clearedRow clearsTo columnsFor columnsOf dbFrom digit emptyDb faultAt findRow goneFrom goneWith goodNumber heldBy here indexOf inner isId isOver isRising isSign isTwice isValue isWord kindFor putRow readColumns readInt readKind readName readRange readRef readSchema readTables refersTo removed reserved rowAt rowsFrom small tableAt tablesFor tablesFrom tokens tokensIn valueIn wantSign wantWord)
open Vauowc (Call FIRSTNEW NEWS Session backRow backing changeRow changesIn changesOf columnsChanged faultRow flushing freeId keyFor keyed keyedRow keysFrom keysOf mayBeNone newOnes newing noBytes onColumn onLink onTable refersInto refreshing relisted relisting removeRow rowState setRow settable stuckIn toInts toNats withNow)
variable{P:aS}{w:aU}{K:ay}{B:Str->az ak}{base:aX}{CT:ai}{cc I:aC->ai}
def Lv(t u:TS):TS:=λD a H=>t {D with nx:=u D} a H
theorem aK{X:Cx}{st:b7}{a:ah b7}{t u:TS}(b:PS X st t)(c:Dj X a u):Dj X (st::a) (Lv t u):=aE b c
inductive QN{a:Type}(P:a->Prop):Prop
 |mk (b:a) (_:P b):QN P
inductive NH{a b:Type}(P:a->b->Prop):Prop
 |mk (c:a) (d:b) (_:P c d):NH P
inductive MP{a b c:Type}(P:a->b->c->Prop):Prop
 |mk (d:a) (e:b) (f:c) (_:P d e f):MP P
inductive OB{a c d e:Type}(P:a->c->d->e->Prop):Prop
 |mk (f:a) (b:c) (g:d) (h:e) (_:P f b g h):OB P
inductive T5{a b d e f:Type}(P:a->b->d->e->f->Prop):Prop
 |mk (g:a) (h:b) (c:d) (i:e) (j:f) (_:P g h c i j):T5 P
inductive R3{a b c d e f:Type}(P:a->b->c->d->e->f->Prop):Prop
 |mk (g:a) (h:b) (i:c) (j:d) (k:e) (l:f) (_:P g h i j k l):R3 P
inductive T6{a b c d e f h:Type}(P:a->b->c->d->e->f->h->Prop):Prop
 |mk (i:a) (j:b) (k:c) (l:d) (m:e) (n:f) (g:h) (_:P i j k l m n g):T6 P
inductive T7{a b c d e f g h:Type}(P:a->b->c->d->e->f->g->h->Prop):Prop
 |mk (i:a) (j:b) (k:c) (l:d) (m:e) (n:f) (o:g) (p:h) (_:P i j k l m n o p):T7 P
inductive T8(a b:Prop):Prop
 |mk (_:a) (_:b):T8 a b
inductive OD(a b c:Prop):Prop
 |mk (_:a) (_:b) (_:c):OD a b c
inductive QO(a b c d:Prop):Prop
 |mk (_:a) (_:b) (_:c) (_:d):QO a b c d
inductive Jt(a b c d e:Prop):Prop
 |mk (_:a) (_:b) (_:c) (_:d) (_:e):Jt a b c d e
inductive MQ(a b c d e f:Prop):Prop
 |mk (_:a) (_:b) (_:c) (_:d) (_:e) (_:f):MQ a b c d e f
inductive T9(a b c d e f g h:Prop):Prop
 |mk (_:a) (_:b) (_:c) (_:d) (_:e) (_:f) (_:g) (_:h):T9 a b c d e f g h
@[simp ↓]theorem U7 {P:c->Prop}:QN P=∃a,P a:=propext ⟨λ⟨a,b⟩=>⟨a,b⟩,λ⟨a,b⟩=>⟨a,b⟩⟩
@[simp ↓]theorem U8 {P:d->e->Prop}:NH P=∃a b,P a b:=propext ⟨λ⟨a,b,c⟩=>⟨a,b,c⟩,λ⟨a,b,c⟩=>⟨a,b,c⟩⟩
@[simp ↓]theorem U9 {P:e->f->g->Prop}:MP P=∃a b c,P a b c:=propext ⟨λ⟨a,b,c,d⟩=>⟨a,b,c,d⟩,λ⟨a,b,c,d⟩=>⟨a,b,c,d⟩⟩
@[simp ↓]theorem U_ {P:f->g->h->i->Prop}:OB P=∃a b c d,P a b c d:=propext ⟨λ⟨a,b,c,d,e⟩=>⟨a,b,c,d,e⟩,λ⟨a,b,c,d,e⟩=>⟨a,b,c,d,e⟩⟩
@[simp ↓]theorem U' {P:g->h->i->j->l->Prop}:T5 P=∃a b c d e,P a b c d e:=propext ⟨λ⟨a,b,c,d,e,f⟩=>⟨a,b,c,d,e,f⟩,λ⟨a,b,c,d,e,f⟩=>⟨a,b,c,d,e,f⟩⟩
@[simp ↓]theorem Va {P:h->i->j->l->n->o->Prop}:R3 P=∃a b c d e f,P a b c d e f:=propext ⟨λ⟨a,b,c,d,e,f,g⟩=>⟨a,b,c,d,e,f,g⟩,λ⟨a,b,c,d,e,f,g⟩=>⟨a,b,c,d,e,f,g⟩⟩
@[simp ↓]theorem Vb {P:i->j->l->n->o->p->q->Prop}:T6 P=∃a b c d e f g,P a b c d e f g:=propext ⟨λ⟨a,b,c,d,e,f,g,h⟩=>⟨a,b,c,d,e,f,g,h⟩,λ⟨a,b,c,d,e,f,g,h⟩=>⟨a,b,c,d,e,f,g,h⟩⟩
@[simp ↓]theorem Vc {P:j->l->n->o->p->q->r->s->Prop}:T7 P=∃a b c d e f g h,P a b c d e f g h:=propext ⟨λ⟨a,b,c,d,e,f,g,h,i⟩=>⟨a,b,c,d,e,f,g,h,i⟩,λ⟨a,b,c,d,e,f,g,h,i⟩=>⟨a,b,c,d,e,f,g,h,i⟩⟩
@[simp ↓]theorem Vd:T8 c d=(c/\d):=propext ⟨λ⟨a,b⟩=>⟨a,b⟩,λ⟨a,b⟩=>⟨a,b⟩⟩
@[simp ↓]theorem Ve:OD d e f=(d/\e/\f):=propext ⟨λ⟨a,b,c⟩=>⟨a,b,c⟩,λ⟨a,b,c⟩=>⟨a,b,c⟩⟩
@[simp ↓]theorem Vf:QO e f g h=(e/\f/\g/\h):=propext ⟨λ⟨a,b,c,d⟩=>⟨a,b,c,d⟩,λ⟨a,b,c,d⟩=>⟨a,b,c,d⟩⟩
@[simp ↓]theorem Vg:Jt f g h i j=(f/\g/\h/\i/\j):=propext ⟨λ⟨a,b,c,d,e⟩=>⟨a,b,c,d,e⟩,λ⟨a,b,c,d,e⟩=>⟨a,b,c,d,e⟩⟩
@[simp ↓]theorem Vh:MQ g h i j l n=(g/\h/\i/\j/\l/\n):=propext ⟨λ⟨a,b,c,d,e,f⟩=>⟨a,b,c,d,e,f⟩,λ⟨a,b,c,d,e,f⟩=>⟨a,b,c,d,e,f⟩⟩
@[simp ↓]theorem Vi:T9 i j l n o p q r=(i/\j/\l/\n/\o/\p/\q/\r):=propext ⟨λ⟨a,b,c,d,e,f,g,h⟩=>⟨a,b,c,d,e,f,g,h⟩,λ⟨a,b,c,d,e,f,g,h⟩=>⟨a,b,c,d,e,f,g,h⟩⟩
theorem Lw{t u:TS}(h:∀k:L2.St->Hp->Prop,(∀a H,u D a H->k a H)->t {D with nx:=k} a H):Lv t u D a H:=h _ λ_ _ z=>z
theorem g2{K:ay}(c:dO K H T [a,b])(h:Q ((d.set i (some a)).set j (some b)) H):Kh K 2 (Kg (mz i) (Kg (mz j) Ra)) (.ref T) d H Q:=⟨T,_,rfl,c,rfl,_,_,rfl,_,_,rfl,rfl,h⟩
theorem R4(h:Q (a.set i (some v)) H):mz i v a H Q:=h
def vq:az (az V)->Hp->VK->Prop
 |some (some v),H,Q=>Q v H
 |_,_,_=>False
def tV(i:Nat):TE:=λa H Q=>vq a[i]? H Q
theorem pw i(e:autoParam (X.N[i]? =some x) cL._auto_6)(d:autoParam (QF X.env.scope x) cL._auto_10)(c:autoParam ((x==("__debug__" :Str))=false) cL._auto_3)
 (b:autoParam ((x==("__classdict__" :Str))=false) cL._auto_3):PE X (.Name x g) (tV i):=λf s a H Q I h=>pv i e d c b s a H Q I (by
 have h:vq a[i]? H Q:=h;cases e:a[i]? with
 |none=>rw[e]at h;show h.elim
 |some o=>cases o with
  |none=>rw[e]at h;show h.elim
  |some v=>rw[e]at h;show⟨v,e,h⟩)
theorem Ic{t u:TS}(c:a[i]? =some (some (.str x)))(b:x≠y)(h:u D a H):Lv (O_ (Hy (Pg To (tV i) (tC (.str y)))) t Kd) u D a H:=by change vq a[i]? H _;rw[c];show⟨rfl,_,rfl,by dsimp only;rw[Wn (by simpa using b)];show h⟩
theorem d8{k:Nat}(a:fq k A):A.units+1<cLine:=by have:=a.units;lia
theorem hide{B:Prop}(h:∀G:Prop,(B->G)->G):B:=h B id
theorem b6(h:b≠a):b∉[a]:=by simpa using h
theorem R5(h:b≠a/\b≠c):b∉[a,c]:=by simpa using h
theorem Wk(h:b≠a/\b≠c/\b≠d):b∉[a,c,d]:=by simpa using h
@[simp ↓]theorem T_ a g (D) (σ) (H):(Pa a g:TS) D σ H=(a σ H λx b=>g x σ b D.nx):=rfl
@[simp ↓]theorem Vj K T r b t (σ) (H) (Q):(UY K T r b t:TE) σ H Q=(b σ H λx a=>QL K T x a/\t σ a λd c=>r x d c Q):=rfl
@[simp ↓]theorem Ua K T r b (σ) (H) (Q):(Rr K T r b:TE) σ H Q=(b σ H λx a=>QL K T x a/\r x [] a Q):=rfl
theorem Ql i(σ)(H)(Q):(pY i:TE) σ H Q=(∃v,σ[i]? =some (some v)/\Q v H):=rfl
@[simp ↓]theorem SR a b (σ) (H) (Q):(Ab a b:TA) σ H Q=(a σ H λx c=>b σ c λe d=>Q (x::e) d):=rfl
@[simp ↓]theorem VR v (u0) (H) (Q):(tC v:TE) u0 H Q=(Q v H):=rfl
@[simp ↓]theorem Ub (u0) (H) (Q):(F2:TA) u0 H Q=(Q [] H):=rfl
theorem NJ i(v)(σ)(H)(Q):(mz i:TG) v σ H Q=(Q (σ.set i (some v)) H):=rfl
@[simp ↓]theorem Uc a (D) (σ) (H):(Q_ a:TS) D σ H=(a σ H D.rt):=rfl
@[simp ↓]theorem SV (D) (u1) (H):(Oh:TS) D u1 H=(D.rt .non H):=rfl
@[simp ↓]theorem Vk t b c (σ) (H) (Q):(UQ t b c:TE) σ H Q=(t σ H λd a=>if d=true then b σ a Q else c σ a Q):=rfl
@[simp ↓]theorem Ud c t u (D) (σ) (H):(O_ c t u:TS) D σ H=(c σ H λb a=>if b=true then t D σ a else u D σ a):=rfl
@[simp ↓]theorem SW t (σ) (H) (Q):(Hy t:L2.TT) σ H Q=(t σ H λx a =>∃k,x= .bl k/\Q k a):=rfl
@[simp ↓]theorem Vl r a b (σ) (H) (Q):(Pg r a b:TE) σ H Q=(a σ H λx c=>b σ c λy d=>r x y d Q):=rfl
@[simp ↓]theorem Vm r a (σ) (H) (Q):(UU r a:TE) σ H Q=(a σ H λx b=>r x b Q):=rfl
@[simp ↓]theorem Vn g (x) (y) (H) (Q):(M3 g:R2) x y H Q=(∃i j,x= .int i/\y= .int j/\Q (g i j) H):=rfl
@[simp ↓]theorem VS C g (x) (y) (H) (Q):(rI C g:R2) x y H Q=(∃i j,x= .int i/\y= .int j/\C i j/\Q (g i j) H):=rfl
@[simp ↓]theorem VW g (x) (H) (Q):(rU g:V->Hp->VK->Prop) x H Q=(∃i,x= .int i/\Q (g i) H):=rfl
@[simp ↓]theorem Vo r t (σ) (H) (Q):(Tp r t:TE) σ H Q=(t σ H λb a=>r b a Q):=rfl
@[simp ↓]theorem SX (D) (σ) (H):(Kd:TS) D σ H=(D.nx σ H):=rfl
@[simp ↓]theorem R6 (D) (σ) (H):(Ke:TS) D σ H=(D.bk σ H):=rfl
@[simp ↓]theorem SY a (D) (σ) (H):(Og a:TS) D σ H=(a σ H λ_ b=>D.nx σ b):=rfl
@[simp ↓]theorem Ue i a b (D) (σ) (H):(Rb i a b:TS) D σ H=(∃x,σ[i]? =some (some x)/\a σ H λy c=>b x y c λz d=>D.nx (σ.set i (some z)) d):=rfl
@[simp ↓]theorem Vp f (x) (y) (H) (Q):(UT f:SG) x y H Q=(∃i j,x= .int i/\y= .int j/\Q (.int (f i j)) H):=rfl
@[simp ↓]theorem Vq (x) (y) (H) (Q):(To:R2) x y H Q=(Dl x y=true/\Q (.bl (decide (x=y))) H):=rfl
@[simp ↓]theorem Vr (x) (y) (H) (Q):(UW:R2) x y H Q=(Dl x y=true/\Q (.bl (!decide (x=y))) H):=rfl
@[simp ↓]theorem Ug (x) (y) (H) (Q):(Rq:R2) x y H Q=(∃z i c,x= .str z/\y= .int i/\z.length<=sizeLine/\oA z.cps.toList i=some c/\Q (.str ⟨#[c]⟩) H):=rfl
@[simp ↓]theorem S0 c d (σ) (H) (Q):(Ot c d:TE) σ H Q=(c σ H λx e=>d σ e λy a=>∃b v,x= .ref b/\dJ a b y (some v)/\Q v a):=rfl
@[simp ↓]theorem Uh d c (σ) (H) (Q):(RB d c:TE) σ H Q=(d σ H λy e=>c σ e λx a=>∃b o,x= .ref b/\dJ a b y o/\Q (.bl o.isSome) a):=rfl
@[simp ↓]theorem QS d c (σ) (H) (Q):(HM d c:TE) σ H Q=(d σ H λy e=>c σ e λx a=>∃b o,x= .ref b/\dJ a b y o/\Q (.bl (!o.isSome)) a):=rfl
@[simp ↓]theorem S1 c e d (D) (σ) (H):(Ou c e d:TS) D σ H=(d σ H λv f=>c σ f λx g=>e σ g λy h=>∃b a,x= .ref b/\m8 h b y v a/\D.nx σ a):=rfl
@[simp ↓]theorem R7 (u0) (H) (Q):(KG:TE) u0 H Q=(∀p,H p=none->Q (.ref p) (upd H p (.dK []))):=rfl
@[simp ↓]theorem Ui t (σ) (H) (Q):(Rl t:TE) σ H Q=(t σ H λb a=>b.length<=sizeLine/\∀p,a p=none->Q (.ref p) (upd a p (.lst b))):=rfl
@[simp ↓]theorem Uj t (σ) (H) (Q):(Rk t:TE) σ H Q=(t σ H λb a=>b.length<=sizeLine/\∀p,a p=none->Q (.ref p) (upd a p (.tup b))):=rfl
@[simp ↓]theorem Uk t u (σ) (H) (Q):(Q6 t u:L2.TT) σ H Q=(t σ H λc a=>if c=true then u σ a Q else Q false a):=rfl
@[simp ↓]theorem Vs t u (σ) (H) (Q):(UO t u:L2.TT) σ H Q=(t σ H λc a=>if c=true then Q true a else u σ a Q):=rfl
@[simp ↓]theorem Ul t (σ) (H) (Q):(Q7 t:L2.TT) σ H Q=(t σ H λc a=>Q (!c) a):=rfl
@[simp ↓]theorem VX t (σ) (H) (Q):(tB t:L2.TT) σ H Q=(t σ H λx a=>∃c,x= .bl c/\Q c a):=rfl
@[simp ↓]theorem S2 b d (σ) (H) (Q):(Oe b d:TE) σ H Q=(b σ H λx a=>∃c,x= .bl c/\if c=true then d σ a Q else Q (.bl false) a):=rfl
@[simp ↓]theorem Um b d (σ) (H) (Q):(Q8 b d:TE) σ H Q=(b σ H λx a=>∃c,x= .bl c/\if c=true then Q (.bl true) a else d σ a Q):=rfl
@[simp ↓]theorem Vt r a tl b (σ) (H) (Q):(UX r a tl b:TE) σ H Q=(a σ H λx c=>tl σ c λl d=>b σ d λu e=>r x l u e Q):=rfl
@[simp ↓]theorem S3 t (σ) (H) (Q):(Ol t:TO) σ H Q=(t σ H λx a=>∃i,x= .int i/\Q (some i) a):=rfl
@[simp ↓]theorem QT (u0) (H) (Q):(HC:TO) u0 H Q=(Q none H):=rfl
@[simp ↓]theorem Uo (x) (lo) (hi) (H) (Q):(RN:V->az Int->az Int->Hp->VK->Prop) x lo hi H Q=(∃z,x= .str z/\z.length<=sizeLine/\Q (.str (DR z lo hi)) H):=rfl
@[simp ↓]theorem S4 b a E t (σ) (H) (Q):(Hz b a E t:TE) σ H Q=(t σ H λd c=>b (d++a) c Q E):=rfl
@[simp ↓]theorem S5 C m d c E e t (σ) (H) (Q):(Dn C m d c E e t:TE) σ H Q=(e σ H λx a=>∃b f fs,x= .ref b/\a b=some (.ins C f fs)/\fs.lookup m=none/\
  t σ a λe b=>d (x::(e++c)) b Q E):=rfl
@[simp ↓]theorem S6 C d c E t (σ) (H) (Q):(Dq C d c E t:TE) σ H Q=(t σ H λe b=>∀x a,b x=none->b a=none->a≠x->
  d (.ref x::(e++c)) (upd (upd b a (.own x)) x (.ins C a [])) (λv t=>v= .non/\Q (.ref x) t) E):=rfl
@[simp ↓]theorem R8 (E:XK) (t:TA) (u0) (σ) (H):(KZ E t:TS) u0 σ H=(t σ H λb a=>∃(k:Int)(p:Nat),b=[.int k,.int (p:Int)]/\E (.int k 0) (some p) a):=rfl
@[simp ↓]theorem Vu C f c (σ) (H) (Q):(U6 C f c:TE) σ H Q=(c σ H λx a=>∃b fs v,x= .ref b/\Ob a b C fs/\fs.lookup f=some v/\Q v a):=rfl
@[simp ↓]theorem Up C f d e (D) (σ) (H):(R0 C f d e:TS) D σ H=(e σ H λy g=>d σ g λx b=>∃a c fs,x= .ref a/\b a=some (.ins C c fs)/\fs.length<1000/\D.nx σ (upd b a (.ins C c (cA f y fs)))):=rfl
@[simp ↓]theorem QV C f h i g (D) (σ) (H):(Ib C f h i g:TS) D σ H=(h σ H λx c=>∃a k fs v,x= .ref a/\c a=some (.ins C k fs)/\fs.lookup f=some v/\i σ c λy j=>g v y j λz d=>∃e b,d a=some (.ins C e b)/\b.length<1000/\D.nx σ (upd d a (.ins C e (cA f z b)))):=rfl
@[simp ↓]theorem Uq (x) (y) (H) (Q):(Rj:V->V->Hp->VK->Prop) x y H Q=(∃i j,x= .int i/\y= .int j/\Q (.int (i+j)) H):=rfl
@[simp ↓]theorem Vv r b a (σ) (H) (Q):(TV r b a:TE) σ H Q=(b σ H λx c=>(∃e,x= .str e)/\a σ c λy d=>r x [y] d Q):=rfl
@[simp ↓]theorem Vw K b (x) (y) (H) (Q):(SK K b:R2) x y H Q=(∃p a,y= .ref p/\(bG K H p a∨dO K H p a)/\jt x=true/\a.all jt=true/\Q (.bl (if b then !F9 x a else F9 x a)) H):=rfl
@[simp ↓]theorem R9 r b c d e (σ) (H) (Q):(FZ r b c d e:TE) σ H Q=(c σ H λx f=>d σ f λy g=>r x y g λz a=>∃k,z= .bl k/\
  (if k=true then e σ a λd c=>b y d c Q else Q (.bl false) a)):=rfl
@[simp ↓]theorem Ur K (x) (y) (H) (Q):(Nh K:R2) x y H Q=(∃p a i v,x= .ref p/\y= .int i/\bG K H p a/\oA a i=some v/\Q v H):=rfl
@[simp ↓]theorem Us K (x) (y) (H) (Q):(F8 K:R2) x y H Q=(∃p a i v,x= .ref p/\y= .int i/\dO K H p a/\oA a i=some v/\Q v H):=rfl
@[simp ↓]theorem Ut (K:ay) (vs) (H) (Q):(Rv K:ah V->Hp->VK->Prop) vs H Q=(∃(a:ai)(bs:ah Bool),vs=[V.ref a]/\bG K H a (bs.map V.bl)/\Q (.bl (bs.all id)) H):=rfl
@[simp ↓]theorem Uu (K:ay) (vs) (H) (Q):(Ru K:ah V->Hp->VK->Prop) vs H Q=(∃(a:ai)(bs:ah Bool),vs=[V.ref a]/\bG K H a (bs.map V.bl)/\Q (.bl (bs.any id)) H):=rfl
@[simp ↓]theorem Uv K (x) (lo) (hi) (H) (Q):(Ni K:V->az Int->az Int->Hp->VK->Prop) x lo hi H Q=(∃a b,x= .ref a/\bG K H a b/\∀p,H p=none->Q (.ref p) (upd H p (.lst (jy b lo hi)))):=rfl
@[simp ↓]theorem Uw K (x) (lo) (hi) (H) (Q):(Ro K:V->az Int->az Int->Hp->VK->Prop) x lo hi H Q=(∃p a,x= .ref p/\dO K H p a/\
  ¬(HT.eK a.length 0 lo=0/\HT.eK a.length a.length hi=a.length)/\∀p,H p=none->Q (.ref p) (upd H p (.tup (jy a lo hi)))):=rfl
@[simp ↓]theorem Ux K (xs) (H) (Q):(Qc K:ah V->Hp->VK->Prop) xs H Q=(∃p a,xs=[.ref p]/\(bG K H p a∨dO K H p a)/\Q (.int a.length) H):=rfl
@[simp ↓]theorem R_ d f e (σ) (H) (Q):(KJ d f e:TE) σ H Q=(d σ H λx b=>∃a,x= .ref a/\TH b a/\f σ b λy g=>e σ g λz c=>∃o,dJ c a y o/\Q (o.getD z) c):=rfl
@[simp ↓]theorem Uy (u0) (H) (Q):(I8:L2.TT) u0 H Q=(Q true H):=rfl
@[simp ↓]theorem Sb K (xs) (H) (Q):(Gq K:ah V->Hp->VK->Prop) xs H Q=(∃p a,xs=[.ref p]/\((bG K H p a/\∀l,H l=none->Q (.ref l) (upd H l (.tup a)))∨(dO K H p a/\Q (.ref p) H))):=rfl
@[simp ↓]theorem QW K (xs) (H) (Q):(H6 K:ah V->Hp->VK->Prop) xs H Q=(∃p a,xs=[.ref p]/\(bG K H p a∨dO K H p a)/\∀l,H l=none->Q (.ref l) (upd H l (.lst a))):=rfl
@[simp ↓]theorem QX (x) (vs) (H) (Q):(HD:V->ah V->Hp->VK->Prop) x vs H Q=(∃l a y,x= .ref l/\vs=[y]/\H l=some (.lst a)/\a.length<sizeLine/\Q .non (upd H l (.lst (a++[y])))):=rfl
@[simp ↓]theorem QY (x) (vs) (H) (Q):(HF:V->ah V->Hp->VK->Prop) x vs H Q=(∃l c a b,x= .ref l/\vs=[.ref c]/\H l=some (.lst a)/\H c=some (.lst b)/\a.length+b.length<=sizeLine/\Q .non (upd H l (.lst (a++b)))):=rfl
@[simp ↓]theorem Sd (xs) (H) (Q):(K3:ah V->Hp->VK->Prop) xs H Q=(∃a b,xs=[V.ref a]/\Rd H a (.dK b)/\∀p,H p=none->Q (.ref p) (upd H p (.dK b))):=rfl
@[simp ↓]theorem Qm (xs) (H) (Q):(uV:ah V->Hp->VK->Prop) xs H Q=(∃(b:ai)(p:ah (Key×V))(a:ah Int),xs=[V.ref b]/\Rd H b (.dK p)/\p.map (·.1)=a.map Sum.inl/\a.length<64/\
  ∀(b :ah Int)(p:ai),b.Perm a->b.Pairwise (·<=·)->H p=none->Q (.ref p) (upd H p (.lst (b.map V.int)))):=rfl
@[simp ↓]theorem Uz (K:ay) (vs) (H) (Q):(Rt K:ah V->Hp->VK->Prop) vs H Q=(∃(a:ai)(b:ah Int),vs=[V.ref a]/\bG K H a (b.map V.int)/\Q (.int b.sum) H):=rfl
@[simp ↓]theorem VY:pY 0 (some v::r) H Q=Q v H:=by simp[pY]
@[simp ↓]theorem VZ:pY (n+1) (x::r) H Q=pY n r H Q:=by simp[pY]
@[simp ↓]theorem V0:tV 0 (some v::r) H Q=Q v H:=rfl
@[simp ↓]theorem V1:tV (n+1) (x::r) H Q=tV n r H Q:=rfl
@[simp ↓]theorem V2:mz 0 v (a::r) H Q=Q (some v::r) H:=rfl
@[simp ↓]theorem V3:mz (n+1) v (a::r) H Q=mz n v r H λz=>Q (a::z):=rfl
@[simp ↓]theorem V4 {s C:ai} {f:Str} {H:Hp} {R:V->Prop}:(∃a fs v,V.ref s= .ref a/\Ob H a C fs/\fs.lookup f=some v/\R v)=∃fs,Ob H s C fs/\∃v,fs.lookup f=some v/\R v:=by simp
@[simp ↓]theorem V5 {x:V} {k:Int} {K:ay} {H:Hp} {R:V->Prop}:(∃p a i v,x= .ref p/\V.int k= .int i/\bG K H p a/\oA a i=some v/\R v)=∃p,x= .ref p/\∃a,bG K H p a/\∃v,oA a k=some v/\R v:=by simp
@[simp ↓]theorem Vx {s:ai} {k:Int} {K:ay} {H:Hp} {R:V->Prop}:(∃p a i v,V.ref s= .ref p/\V.int k= .int i/\bG K H p a/\oA a i=some v/\R v)=∃a,bG K H s a/\∃v,oA a k=some v/\R v:=by simp
@[simp ↓]theorem V6 {s:ai} {R:ai->Prop}:(∃a,V.ref s= .ref a/\R a)=R s:=by simp
@[simp ↓]theorem V7 {b:Type} {s:ai} {R:ai->b->Prop}:(∃a x,V.ref s= .ref a/\R a x)=∃x,R s x:=by simp
@[simp ↓]theorem V8 {b c:Type} {s:ai} {R:ai->b->c->Prop}:(∃a x y,V.ref s= .ref a/\R a x y)=∃x y,R s x y:=by simp
@[simp ↓]theorem V9 {b:Type} {s:ai} {R:ai->b->Prop}:(∃a x,[V.ref s]=[V.ref a]/\R a x)=∃x,R s x:=by simp
@[simp ↓]theorem V_ {b:Type} {s:ai} {v:V} {R:ai->b->V->Prop}:(∃l a y,V.ref s= .ref l/\[v]=[y]/\R l a y)=∃a,R s a v:=by simp
@[simp ↓]theorem Vy {b:Int} {R:Int->Prop}:(∃k,V.int b= .int k/\R k)=R b:=by simp
@[simp ↓]theorem Wa {a b:Int} {R:Int->Int->Prop}:(∃i j,V.int a= .int i/\V.int b= .int j/\R i j)=R a b:=by simp
@[simp ↓]theorem Vz {x:V} {C:ai} {f:Str} {H:Hp} {R:V->Prop}:(∃a fs v,x= .ref a/\Ob H a C fs/\fs.lookup f=some v/\R v)=∃a,x= .ref a/\∃fs,Ob H a C fs/\∃v,fs.lookup f=some v/\R v:=by simp
@[simp ↓]theorem VA {x y:V} {K:ay} {H:Hp} {R:V->Prop}:(∃p a i v,x= .ref p/\y= .int i/\bG K H p a/\oA a i=some v/\R v)=∃p,x= .ref p/\∃a i,y= .int i/\bG K H p a/\∃v,oA a i=some v/\R v:=by simp
@[simp ↓]theorem VB {s:ai} {y:V} {K:ay} {H:Hp} {R:V->Prop}:(∃p a i v,V.ref s= .ref p/\y= .int i/\bG K H p a/\oA a i=some v/\R v)=∃a i,y= .int i/\bG K H s a/\∃v,oA a i=some v/\R v:=by simp
@[simp ↓]theorem VC {x y:V} {K:ay} {H:Hp} {R:V->Prop}:(∃p a i v,x= .ref p/\y= .int i/\dO K H p a/\oA a i=some v/\R v)=∃p,x= .ref p/\∃a i,y= .int i/\dO K H p a/\∃v,oA a i=some v/\R v:=by simp
@[simp ↓]theorem VD {s:ai} {y:V} {K:ay} {H:Hp} {R:V->Prop}:(∃p a i v,V.ref s= .ref p/\y= .int i/\dO K H p a/\oA a i=some v/\R v)=∃a i,y= .int i/\dO K H s a/\∃v,oA a i=some v/\R v:=by simp
@[simp ↓]theorem Wb {x:V} {k:Int} {K:ay} {H:Hp} {R:V->Prop}:(∃p a i v,x= .ref p/\V.int k= .int i/\dO K H p a/\oA a i=some v/\R v)=∃p,x= .ref p/\∃a,dO K H p a/\∃v,oA a k=some v/\R v:=by simp
@[simp ↓]theorem VF {s:ai} {k:Int} {K:ay} {H:Hp} {R:V->Prop}:(∃p a i v,V.ref s= .ref p/\V.int k= .int i/\dO K H p a/\oA a i=some v/\R v)=∃a,dO K H s a/\∃v,oA a k=some v/\R v:=by simp
@[simp ↓]theorem Wc {b:Type} {x:V} {R:ai->b->Prop}:(∃a y,x= .ref a/\R a y)=∃a,x= .ref a/\∃y,R a y:=by simp
@[simp ↓]theorem Wd {b:Type} {x:V} {R:ai->b->Prop}:(∃a y,[x]=[V.ref a]/\R a y)=∃a,x= .ref a/\∃y,R a y:=by simp
theorem Wf{b:Bool}{R:Bool->Prop}:(∃k,V.bl b= .bl k/\R k)=R b:=by simp
@[simp ↓]theorem Wg {b:Str} {R:Str->Prop}:(∃k,V.str b= .str k/\R k)=R b:=by simp
@[simp ↓]theorem S7:L2.start N a=a.map some++List.replicate (N.length-a.length) none:=rfl
@[simp ↓]theorem UA:List.map some (v::l)=some v::List.map some l:=rfl
@[simp ↓]theorem UB:List.map some ([]:ah V)=[]:=rfl
set_option hygiene false
local macro_rules| `(tactic|walk_at "v")=> `(tactic|(try with_reducible refine S8 ?_))
local macro_rules| `(tactic|right)=> `(tactic|refine hide λG9 S8=> ?_)
local macro_rules| `(tactic|walk_at "u")=> `(tactic|refine S8 ?_)
local macro_rules| `(tactic|walk_at "l")=> `(tactic|((try with_reducible refine S8 ?_);(try with_reducible refine UC _ _ ?_);(try with_reducible refine R4 ?_);(try with_reducible refine Lw λk9 UC=> ?_)))
local macro_rules| `(tactic|left)=> `(tactic|((try with_reducible refine S8 ?_);(try with_reducible refine UC _ _ ?_);(try with_reducible refine R4 ?_);(try with_reducible refine Lw λk9 UC=> ?_);(try dsimp);try simp[Q9,Ql,NJ,QL,Lf,Lg,NB,and_assoc,bN,rj,Le,cW,iy,av,lH,Int.natCast_inj,Qg,-List.lookup_eq_none_iff,d9]))
local macro_rules| `(tactic|walk_at "p")=> `(tactic|simp[cW,iy,bN])
set_option hygiene true
theorem D_(n p:Nat):fromIndex n (p:Int)=p:=by
 change(max (0:Int) (if(p:Int)<0 then(p:Int)+n else p)).toNat=p;rw[Wn (by lia)]
 lia
theorem B7(h:v<x.length):x.cps.getD v 0=c↔(tl x)[v]? =some c:=by have c:v<x.cps.size:=h;simp[Array.getD,c]
theorem u6{x:Str}{p c:Nat}:oA x.cps.toList (p:Int)=some c↔(tl x)[p]? =some c:=by constructor;intro h;unfold oA Pr at h;rw[Wt (by lia)]at h;by_cases c:(p:Int)<(x.cps.toList.length:Nat);rw[Wt c]at h;simpa using h;rw[Wn c]at h;cases h;show λh=>bJ h
def Ie(a:ah Nat)(p e:Nat):Prop:=p<=e/\e<=a.length/\(∀v,p<=v->v<e->a[v]?≠some 10)/\(e<a.length->a[e]? =some 10)
inductive rZ(a:ah V)(H:Hp)(Q:VK)(b:XK):Prop
 |mk (x:Str) (p:Nat) (_:a=[.str x,.int p]) (_:x.length<=sizeLine) (_:p<=x.length) (_:∀e:Nat,Ie (tl x) p e->Q (.int e) H):rZ a H Q b
theorem B8(a:En P w K B base CT cc I):fc P w K B base CT "remark_end" 1 ["text","place"] rZ:=by
 show cg a a.fs.Bk ["text","place","end"] λf z A d s H e Q E c h b T=> ?_;obtain⟨x,p,rfl,g,z,k⟩:=h
 show⟨_,(aE (aP 2 b.nd (fB F.plainAttrs_str F.slot_str_find F.type_str_find K7 (pw 0) (aj cz (aj (pw 1) ao))))
  (au (aJ (jP (aQ rS (pw 2) aO (a_ _)) (bw eo rfl T.cO Xy (aj (pw 0) ao)) (pw 2))))),?_⟩
 left;have a:=eS x;rcases StrLaws.find3_spec x 10 p with⟨e,h⟩|⟨j,e,c,T,f,d⟩
 rw[show Str.ofString "\n" =⟨#[10]⟩from rfl,e,Wt (by decide)];rw[D_]at h;show⟨g,k _ ⟨z,by lia,λv a b=> ?_,λa=>absurd a (by lia)⟩⟩;intro z;show h v a b ((B7 b).mpr z);rw[D_]at c d;rw[show Str.ofString "\n" =⟨#[10]⟩from rfl,e,Wn (by lia)];show k _ ⟨c,by lia,λv a b z=> ?_,λa=>(B7 T).mp f⟩;show d v a b ((B7 (by lia)).mpr z)
theorem nA:∀m{cs}{p e},e-p=m->Ie cs p e->((cs.drop p).takeWhile λc=>c !=10).length=m
 |0,cs,p,e,d,h=>by
  obtain⟨f,a,b,c⟩:=h;have:e=p:=by lia
  subst this;by_cases g:e<cs.length;have:=c g;rw[PM.gH this,ZJ (by simp)];rfl;rw[Xk (by lia)];rfl
 |m+1,cs,p,e,d,h=>by obtain⟨f,a,b,c⟩:=h;have e:=Nat.lt_of_sub_eq_succ d;have h:=Wr (W4 e a);have i:=nA m (p:=p+1) (XE Nat.pred d) ⟨e,a,λv f g=>b v (Zn f) g,c⟩;rw[PM.gH h,Yw,WG,i];have:=b p (Wu _) e;rw[h]at this;simpa using this
theorem GA c(a:c≠13):decide (c∈(Str.ofString " \t\n").cps)=blank c:=by
 change decide (c∈#[32,9,10])=_;unfold blank;by_cases h:c=9∨c=10∨c=32;rcases h with rfl|rfl|rfl<;>simp
 simp only[not_or]at h;simp[h,a]
def Lx(x:Str):Prop:=∀v:Nat,(tl x)[v]?≠some 13
inductive Ly(a:ah V)(H:Hp)(Q:VK)(b:XK):Prop
 |mk (x:Str) (p:Nat) (_:a=[.str x,.int p]) (_:x.length<=sizeLine) (_:Lx x) (_:p<=x.length) (_:∀q:Nat,PM.At (tl x) p q->Q (.int q) H):Ly a H Q b
def OG(x:Str)(p:Nat)(H:Hp)(m:Nat)(b:L2.St)(a :Hp):Prop:=a =H/\∃q:Nat,m=x.length-q/\b=[some (V.str x),some (V.int q)]/\p<=q/\q<=x.length/\PM.tk (tl x) p=PM.tk (tl x) q
theorem Ig c:((⟨#[c]⟩:Str)=Str.ofString "#")↔c=35:=by change((⟨#[c]⟩:Str)=⟨#[35]⟩)↔_;simp
theorem w_(a:En P w K B base CT cc I):fc P w K B base CT "skip_blanks" 2 ["text","place"] Ly:=by
 show cg a a.fs.wK ["text","place"] λc b A e s H g Q E m f d T=> ?_;obtain⟨x,p,rfl,h,n,j,l⟩:=f
 show⟨_,(aE (jQ WT (aQ rS (pw 1) (bw eo rfl T.cO Xy (aj (pw 0) ao)) (a_ _))
  (au (bz (aQ cM (bH uJ (pw 0) (pw 1)) (cG rfl T.nk) (a_ _))
  (au (aP 1 d.nd (aR (B8 a) m aM (aj (pw 0) (aj (pw 1) ao)))))
  (au (bz (aQ jU (bH uJ (pw 0) (pw 1)) (cG rfl T.nj) (by with_unfolding_all rfl))
  (au (FU 1 d.nd aO FW))
  (au Kf))))))
  (au (aJ (pw 1)))),?_⟩
 left;have d:=eS x;show⟨OG x p H,⟨_,rfl,p,rfl,rfl,Wu _,j,rfl⟩,?_⟩;rintro f a d ⟨rfl,q,rfl,rfl,k,m,g⟩;left;show⟨h,?_⟩;by_cases e:q<x.length;rw[Wt e];have b:(tl x)[q]? =some (tl x)[q]:=Wr (by lia);generalize(tl x)[q]=c at b;have i:=PM.gH b;have H:c≠13:=λz=>n q (z▸b);show⟨λT f =>∃a,a <x.length-q/\OG x p d a T f,λ_ _ z=>z,h,c,u6.mpr b,?_⟩;by_cases T:c=35;subst T;rw[Wt ((Ig 35).mpr rfl)];show⟨x,q,rfl,h,m,λf a=>⟨x.length-f,?_,rfl,f,rfl,rfl,?_,?_,?_⟩⟩;have d:=a.2.2.2;have:f≠q:=by rintro rfl;rw[b]at d;have:=d (by lia);cases this
 show Nat.sub_lt_sub_left e (abQ a.1 this.symm);have:=a.1
 lia
 have:=a.2.1
 lia
 rw[g,PM.lR i];have m:f≠q:=by rintro rfl;have d:=a.2.2.2 (by lia);rw[b]at d;cases d
 have d:=abQ a.1 m.symm;have hw:=nA _ (p:=q+1) rfl ⟨d,a.2.1,λv m f=>a.2.2.1 v (by lia) f,a.2.2.2⟩;rw[hw];rw[abS d];rfl;rw[Wn λz=>T ((Ig c).mp z)];show⟨h,c,u6.mpr b,?_⟩;have d:=GA c H;by_cases a:c∈(Str.ofString " \t\n").cps;rw[Wt a];rw[WK a]at d;show⟨_,Ye _ _ e,rfl,q+1,rfl,by simp,abT k,e,?_⟩;rw[g,PM.lR i,Wt d.symm];rw[Wn a];rw[WC a]at d;show l _ ⟨k,by lia,g,λm f=> ?_⟩;rw[b]at f;cases f;show⟨d.symm,by simpa using T⟩;rw[Wn e];have:q=x.length:=by lia
 subst this;show l _ ⟨j,by lia,g,λc a=> ?_⟩;rw[Xh (by lia)]at a;cases a
inductive Ih(b:ah V)(H:Hp)(Q:VK)(c:XK):Prop
 |mk (x a:Str) (p:Nat) (_:b=[.str x,.int p,.str a]) (_:x.length<=sizeLine) (_:p<=x.length) (_:∀y:Str,tl y=((tl x).drop p).takeWhile (λd=>decide (d∈tl a))->Q (.str y) H):Ih b H Q c
def Se(x a:Str)(p:Nat)(H:Hp)(m:Nat)(d:L2.St)(b :Hp):Prop:=b =H/\∃q:Nat,m=x.length-q/\d=[some (V.str x),some (V.int p),some (V.str a),some (V.int q)]/\p<=q/\q<=x.length/\((tl x).drop p).takeWhile (λc=>decide (c∈tl a))=((tl x).drop p).take (q-p)++((tl x).drop q).takeWhile (λc=>decide (c∈tl a))
theorem Ea(a:En P w K B base CT cc I):fc P w K B base CT "run_at" 1 ["text","place","allowed"] Ih:=by
 show cg a a.fs.J6 ["text","place","allowed","end"] λf b A k s H e Q E d h c T=> ?_;obtain⟨x,a,p,rfl,f,b,k⟩:=h
 show⟨_,(aE (aP 3 c.nd (pw 1))
  (aE (jQ WT (PW.pt (gK (aQ rS (pw 3) (bw eo rfl T.cO Xy (aj (pw 0) ao)) (a_ _)) (gY (aQ jU (bH uJ (pw 0) (pw 3)) (pw 2) (by with_unfolding_all rfl)))))
  (au (FU 3 c.nd aO FW)))
  (au (aJ (fL KQ (pw 0) (ek (pw 1)) (ek (pw 3))))))),?_⟩
 left;have c:=eS x;show⟨Se x a p H,⟨_,rfl,p,rfl,rfl,Wu _,b,by simp⟩,?_⟩;rintro m c i ⟨rfl,q,rfl,rfl,g,d,h⟩;left;show⟨f,?_⟩;have j:((tl x).drop q).takeWhile (λc=>decide (c∈tl a))=[]->Q (V.str (DR x (some (p:Int)) (some (q:Int)))) i :=by intro H;show k _ ?_;rw[H,XJ]at h;rw[h];change((x.cps.toList.drop _).take _)=_;rw[HT.gy,HT.gy,Yo b,Yo d]
 by_cases d:q<x.length;rw[Wt d];have e:(tl x)[q]? =some (tl x)[q]:=Wr (by lia);generalize(tl x)[q]=c at e;have k:=PM.gH e;show⟨f,c,u6.mpr e,?_⟩;by_cases b:c∈a.cps;rw[Wt b];show⟨λQ H =>∃c,c <x.length-q/\Se x a p i c Q H,λ_ _ z=>z,_,Ye _ _ d,rfl,q+1,rfl,by simp,abT g,d,?_⟩;rw[h,k,Yw (by simpa using b)];rw[Nat.sub_add_comm g,W7,Z2,abS g,e];simp;rw[Wn b];show⟨f,j (by rw[k,ZJ (by simpa using b)])⟩;rw[Wn d];show⟨f,j (by rw[Xk (by lia)];rfl)⟩
inductive n9(cc:aC->ai)(b:ah V)(H:Hp)(Q:VK)(c:XK):Prop
 |mk (a k t p dx) (_:b=[.ref a,k,t,p]) (_:H a=some (.ins (cc "Token") dx [])) (_:Q .non (upd H a (.ins (cc "Token") dx [("kind",k),("text",t),("place",p)]))):n9 cc b H Q c
theorem tM(a:En P w K B base CT cc I):MN P w K B base CT (cc "Token") "Token" 1 ["self","kind","text","place"] (n9 cc):=by
 show Jm a a.H_ a.fZ ["self","kind","text","place"] λf b A k s H t Q E q h c T=> ?_;obtain⟨A,k,t,p,a,rfl,b,q⟩:=h
 show⟨_,(aE (bX T.b8 T.eu (pw 0) (pw 1) rfl)
  (aE (bX T.b8 T.cD (pw 0) (pw 2) rfl)
  (au (bX T.b8 T.cT (pw 0) (pw 3) rfl)))),?_⟩
 left;show⟨a,[],b,by decide,by simp[cW,iy,bN],by simp[cW,iy,bN],q⟩
def oS(cc:aC->ai)(H:Hp)(b:ai)(a y:Str)(p:Nat):Prop:=Ob H b (cc "Token") [("kind",.str a),("text",.str y),("place",.int p)]
theorem qj{H:Hp}{Q:VK}{E:XK}{g y:Str}{p:Nat}{x a:ai}(k:∀c b,aD H b->oS cc b c g y p->Q (.ref c) b)(d:H x=none)(e:H a=none)(f:¬a=x):
 n9 cc [.ref x,.str g,.str y,.int p] (upd (upd H a (.own x)) x (.ins (cc "Token") a [])) (λv b=>v=V.non/\Q (.ref x) b) E:=by
 show⟨x,_,_,_,a,rfl,av,rfl,?_⟩;rw[lH];show k _ _ (D0 d e f).1 (D0 d e f).2
theorem GB c:decide (c∈tl (Str.ofString "abcdefghijklmnopqrstuvwxyz0123456789_"))=inner c:=by
 by_cases h:c<128;have:∀c:Fin 128,decide (c.val∈tl (Str.ofString "abcdefghijklmnopqrstuvwxyz0123456789_"))=inner c.val:=by decide+kernel
 show this ⟨c,h⟩
 have a:c∉tl (Str.ofString "abcdefghijklmnopqrstuvwxyz0123456789_"):=λm=>by
  have:∀d∈tl (Str.ofString "abcdefghijklmnopqrstuvwxyz0123456789_"),d<128:=by decide+kernel
  show h (this c m)
 rw[WC a];unfold inner small digit;have d:decide (c<=122)=false:=WC (by lia);have h:decide (c<=57)=false:=WC (by lia);have a:(c==95)=false:=by simp;lia
 simp[d,h,a]
theorem letters c:decide (c∈tl (Str.ofString "abcdefghijklmnopqrstuvwxyz"))=small c:=by
 by_cases h:c<128;have:∀c:Fin 128,decide (c.val∈tl (Str.ofString "abcdefghijklmnopqrstuvwxyz"))=small c.val:=by decide+kernel
 show this ⟨c,h⟩
 have a:c∉tl (Str.ofString "abcdefghijklmnopqrstuvwxyz"):=λm=>by
  have:∀d∈tl (Str.ofString "abcdefghijklmnopqrstuvwxyz"),d<128:=by decide+kernel
  show h (this c m)
 rw[WC a];unfold small;have d:decide (c<=122)=false:=WC (by lia);simp[d]
theorem digits c:decide (c∈tl (Str.ofString "0123456789"))=digit c:=by
 by_cases h:c<128;have:∀c:Fin 128,decide (c.val∈tl (Str.ofString "0123456789"))=digit c.val:=by decide+kernel
 show this ⟨c,h⟩
 have a:c∉tl (Str.ofString "0123456789"):=λm=>by
  have:∀d∈tl (Str.ofString "0123456789"),d<128:=by decide+kernel
  show h (this c m)
 rw[WC a];unfold digit;have d:decide (c<=57)=false:=WC (by lia);simp[d]
theorem GC c:decide (c∈tl (Str.ofString "-:;{}"))=VauowBase.signs.contains c:=by change decide (c∈[45,58,59,123,125])=[45,58,59,123,125].contains c;simp
inductive Eb(cc:aC->ai)(c:ah V)(H:Hp)(Q:VK)(E:XK):Prop
 |mk (x:Str) (p:Nat) (_:c=[.str x,.int p]) (_:x.length<=sizeLine) (_:p<=x.length) (_:(12<(((tl x).drop p).takeWhile inner).length->E (.int 2 0) (some p) H)) (_:((((tl x).drop p).takeWhile inner).length<=12->∀y b a,tl y=((tl x).drop p).takeWhile inner->aD H a->oS cc a b "word" y p->Q (.ref b) a)):Eb cc c H Q E
theorem Ju(y:En P w K B base CT cc I):fc P w K B base CT "word_at" 3 ["text","place"] (Eb cc):=by
 show cg y y.fs.IW ["text","place","word"] λf b A d s H c Q E a h e T=> ?_;obtain⟨x,p,rfl,d,b,c,k⟩:=h
 show⟨_,(aE (aP 2 e.nd (aR (Ea y) a aM (aj (pw 0) (aj (pw 1) (aj (cG rfl T.g6) ao)))))
  (aE (bz (aQ p5 (bw eo rfl T.cO Xy (aj (pw 2) ao)) (bA rfl T.fD) (a_ _))
  (au (fh T.fx (a.mono (by decide)) rfl rfl T.tf bQ (aj (bA rfl T.gP) (aj (pw 1) ao))))
  aN)
  (au (aJ (pH (tM y) a aM (aj (cG rfl T.uX) (aj (pw 2) (aj (pw 1) ao)))))))),?_⟩
 left;show⟨x,_,p,rfl,d,b,λy a=> ?_⟩;rw[funext GB]at a;have b:=eS y
 have T:y.length<=sizeLine:=by
  have d:=(aah (p:=inner) (l:=(tl x).drop p)).length_le;rw[<- a,Xu,<- b,<- eS]at d
  lia
 show⟨y,rfl,T,?_⟩;rw[<- a,<- b]at c k;by_cases a:12<y.length;rw[Wt (by lia)];show c a;rw[Wn (by lia)];show λb e c T d=>qj (λb a =>k (by lia) y b a rfl) c T d
inductive u9(cc:aC->ai)(c:ah V)(H:Hp)(Q:VK)(E:XK):Prop
 |mk (x:Str) (p:Nat) (_:c=[.str x,.int p]) (_:x.length<=sizeLine) (_:p<=x.length) (_:((tl x).drop p).takeWhile digit≠[]) (_:(goodNumber (((tl x).drop p).takeWhile digit)=false->E (.int 2 0) (some p) H)) (_:(goodNumber (((tl x).drop p).takeWhile digit)=true->∀y b a,tl y=((tl x).drop p).takeWhile digit->aD H a->oS cc a b "number" y p->Q (.ref b) a)):u9 cc c H Q E
theorem B9 l:NumText.digitsVal l=valueIn l:=by
 unfold NumText.digitsVal valueIn;have:(λ(acc c:Nat)=>acc*10+(c-48))=λ(n c:Nat)=>10*n+(c-48):=by funext a c;rw[Nat.mul_comm]
 rw[this]
theorem Lz(a:(tl y).all digit=true)(d:tl y≠[])(b:y.length<=4300):intText? y=some (valueIn (tl y):Int):=by rw[<- B9];show intText_digits (λc y=> ?_) d b;have:=X6.mp a c y;unfold digit at this;simpa using this
theorem Ii c:((⟨#[c]⟩:Str)=Str.ofString "0")↔c=48:=by change((⟨#[c]⟩:Str)=⟨#[48]⟩)↔_;simp
theorem Ec(c:En P w K B base CT cc I):fc P w K B base CT "number_at" 3 ["text","place"] (u9 cc):=by
 show cg c c.fs.C1 ["text","place","digits"] λf e A d s H x Q E b h g T=> ?_;obtain⟨x,p,rfl,f,e,d,a,k⟩:=h
 show⟨_,(aE (aP 2 g.nd (aR (Ea c) b aM (aj (pw 0) (aj (pw 1) (aj (cG rfl T.ni) ao)))))
  (aE (bz (PW.pt (J' (aQ p5 (bw eo rfl T.cO Xy (aj (pw 2) ao)) (bA rfl T.iW) (a_ _)) (FT (aQ p5 (dH lJ rfl T.Ak boot_int (aj (pw 2) ao)) (bA rfl T.iX) (a_ _)))))
  (au (fh T.fx (b.mono (by decide)) rfl rfl T.tf bQ (aj (bA rfl T.gP) (aj (pw 1) ao))))
  aN)
  (aE (bz (PW.pt (gK (aQ p5 (bw eo rfl T.cO Xy (aj (pw 2) ao)) aO (a_ _)) (gY (aQ cM (bH uJ (pw 2) aO) cz (a_ _)))))
  (au (fh T.fx (b.mono (by decide)) rfl rfl T.tf bQ (aj (bA rfl T.gP) (aj (pw 1) ao))))
  aN)
  (au (aJ (pH (tM c) b aM (aj (cG rfl T.nq) (aj (pw 2) (aj (pw 1) ao))))))))),?_⟩
 left;show⟨x,_,p,rfl,f,e,λy b=> ?_⟩;rw[funext digits]at b;have e:=eS y
 have T:y.length<=sizeLine:=by
  have c:=(aah (p:=digit) (l:=(tl x).drop p)).length_le;rw[<- b,Xu,<- e,<- eS]at c
  lia
 have x:(tl y).all digit=true:=by rw[b];show abO
 show⟨y,rfl,T,?_⟩;rw[<- b]at a k d;have b:=abD.mpr d
 have f:goodNumber (tl y)=true->∀b c,H b=none->H c=none->¬c=b->n9 cc [.ref b,.str (Str.ofString "number"),.str y,.int p] (upd (upd H c (.own b)) b (.ins (cc "Token") c [])) (λv e=>v=V.non/\Q (.ref b) e) E0:=
  λg b c e T h=>qj (λb H =>k g y b H rfl) e T h
 by_cases b:7<y.length;rw[Wt (by lia)];show a ?_;unfold goodNumber;rw[WC (by lia)];rfl;rw[Wn (by lia)];have b:=Lz x d (by lia);show⟨y,rfl,_,b,by lia,?_⟩;by_cases b:(1000000:Int)<(valueIn (tl y):Int);rw[Wt b];show a ?_;unfold goodNumber TOP;rw[WC (p:=(valueIn (tl y):Int)<=1000000) (by lia),aaN];rw[Wn b];show⟨y,rfl,T,?_⟩;have H:decide ((tl y).length<=7)=true:=WK (by lia);have d:decide ((valueIn (tl y):Int)<=TOP)=true:=WK (by unfold TOP;lia);by_cases e:1<y.length;rw[Wt (by lia)];have b:(tl y)[0]? =some (tl y)[0]:=Wr (by lia);generalize(tl y)[0]=c at b;show⟨y,rfl,T,c,u6.mpr b,?_⟩;have e:(tl y).head? =some c:=by rw[List.head?_eq_getElem?];show b
 have T:((tl y).length==1)=false:=Xs.mpr (by lia);by_cases b:c=48;rw[Wt ((Ii c).mpr b)];show a ?_;unfold goodNumber;rw[H,d,T,e,b];rfl;rw[Wn λz=>b ((Ii c).mp z)];show f ?_;unfold goodNumber;rw[H,d,T,e];simpa using b;rw[Wn (by lia)];show f ?_;unfold goodNumber;have T:((tl y).length==1)=true:=XD.mpr (by lia);rw[H,d,T];rfl
def bS(l:ah ai)(H a :Hp):Prop:=∀b o,b∉l->H b=some o->a b=some o
theorem aD.but(s:aD H a) l:bS l H a :=λb o _ h=>s b o h
theorem bS.refl l H:bS l H H:=λ_ _ _ h=>h
theorem bS.trans(a:bS l H d)(b:bS l d e):bS l H e:=λc o n h=>b c o n (a c o n h)
theorem bS.mono{l m:ah ai}(b:bS l H a)(h:∀d∈l,d∈m):bS m H a :=λc o n e=>b c o (λz=>n (h c z)) e
theorem bS.upd:bS [a] H (upd H a o):=λb u n h=>by rw[aF (by simpa using n)];show h
theorem bS.ob{fs:ah (Str×V)}(s:bS l H a)(h:Ob H b C fs)(n:b∉l):Ob a b C fs:=by obtain⟨a,e⟩:=h;show⟨a,s _ _ n e⟩
def cQ(E:XK)(l:ah ai)(H:Hp)(f:Nat×Nat):Prop:=∀a,bS l H a->E (.int (f.1:Int) 0) (some f.2) a
theorem cQ.on(h:cQ E l H f)(c:bS l H a):cQ E l a f:=λb d=>h b (c.trans d)
inductive Aw(cc:aC->ai)(e:ah V)(H:Hp)(Q:VK)(E:XK):Prop
 |mk (x:Str) (q:Nat) (_:e=[.str x,.int q]) (_:x.length<=sizeLine) (_:q<=x.length) (_:(∀c,(tl x)[q]? =some c->blank c=false/\(c==35)=false)) (_:(∀k:Nat,PM.tk (tl x) q=[(q,.bad k)]->E (.int k 0) (some q) H)) (_:(∀tok d y b a,PM.q9 (tl x) q (PM.tk (tl x) q) tok d (tl y)->aD H a->oS cc a b d y q->Q (.ref b) a)):Aw cc e H Q E
theorem GD(a:En P w K B base CT cc I):fc P w K B base CT "token_at" 4 ["text","place"] (Aw cc):=by
 show cg a a.fs.FH ["text","place","first"] λf g A k s H d Q E b h c T=> ?_;obtain⟨x,q,rfl,k,u,g,r,o⟩:=h
 show⟨_,(aE (bz (aQ cM (pw 1) (bw eo rfl T.cO Xy (aj (pw 0) ao)) (a_ _))
  (au (aJ (pH (tM a) b aM (aj (cG rfl T.Am) (aj cz (aj (pw 1) ao))))))
  aN)
  (aE (aP 2 c.nd (bH uJ (pw 0) (pw 1)))
  (aE (bz (aQ jU (pw 2) (cG rfl T.n5) (by with_unfolding_all rfl))
  (au (aJ (aR (Ju a) b bQ (aj (pw 0) (aj (pw 1) ao)))))
  aN)
  (aE (bz (aQ jU (pw 2) (cG rfl T.ni) (by with_unfolding_all rfl))
  (au (aJ (aR (Ec a) b bQ (aj (pw 0) (aj (pw 1) ao)))))
  aN)
  (aE (bz (aQ jU (pw 2) (cG rfl T.qg) (by with_unfolding_all rfl))
  (au (aJ (pH (tM a) b aM (aj (cG rfl T.B3) (aj (pw 2) (aj (pw 1) ao))))))
  aN)
  (au (fh T.fx (b.mono (by decide)) rfl rfl T.tf bQ (aj (bA rfl T.lK) (aj (pw 1) ao))))))))),?_⟩
 have c:=eS x;left;show⟨k,?_⟩;by_cases a:q=x.length;rw[Wt a];show λb v e T f=>qj (λb d s t=> ?_) e T f;subst a;show o .over "end" (Str.ofString "") b d ?_ s t;rw[c];show PM.Ar;rw[Wn a];have a:(tl x)[q]? =some (tl x)[q]:=Wr (by lia);generalize(tl x)[q]=c at a;obtain⟨j,i⟩:=g c a;show⟨k,c,u6.mpr a,?_⟩;have l:=letters c;have m:=digits c;have n:=GC c;have g:∀{z:Str},c∈z.cps↔c∈tl z:=by intro z;simp
 by_cases e:small c=true;rw[e]at l;rw[Wt (g.mpr (XT l))];show⟨x,q,rfl,k,u,λh=>r 2 ?_,λh y b d p s t=> ?_⟩;rw[PM.tL a j i e,Wt h];show o (.word ((List.drop q (tl x)).takeWhile inner)) _ y b d ?_ s t;rw[p];show PM.As a j i e h;rw[Xa.mpr e]at l;rw[Wn λz=>aaQ l (g.mp z)];by_cases T:digit c=true;rw[T]at m;rw[Wt (g.mpr (XT m))];show⟨x,q,rfl,k,u,by rw[PM.rg a T];simp,λh=>r 2 ?_,λh y b d p s t=> ?_⟩;rw[PM.B4 a j i T,Wn (by rw[h];simp)];show o (.num (valueIn ((List.drop q (tl x)).takeWhile digit))) _ y b d ?_ s t;rw[p];show PM.DZ a j i T h;rw[Xa.mpr T]at m;rw[Wn λz=>aaQ m (g.mp z)];by_cases f:VauowBase.signs.contains c=true;rw[f]at n;rw[Wt (g.mpr (XT n))];show λb v c h k=>qj (λb d s t=> ?_) c h k;show o _ _ _ b d (PM.Au a f) s t;rw[Xa.mpr f]at n;rw[Wn λz=>aaQ n (g.mp z)];show r 1 (PM.Gu a j i (Xa.mpr e) (Xa.mpr T) (Xa.mpr f))
inductive qk(cc:aC->ai)(c:ah V)(H:Hp)(Q:VK)(E:XK):Prop
 |mk (b:ai) (a:aC) (y:Str) (q:Nat) (_:c=[.ref b]) (_:oS cc H b a y q) (_:E (.int ((if a= "end" then 4 else 3:Nat):Int) 0) (some q) H):qk cc c H Q E
theorem ql(a:En P w K B base CT cc I):fc P w K B base CT "reject" 3 ["token"] (qk cc):=by
 show cg a a.fs.J7 ["token"] λf b A c s H d Q E e h q T=> ?_;obtain⟨A,c,y,q,rfl,b,a⟩:=h
 show⟨_,(aE (bz (aQ cM (aW T.b8 T.eu (pw 0)) (cG rfl T.Am) (a_ _))
  (au (fh T.fx (e.mono (by decide)) rfl rfl T.tf bQ (aj (bA rfl T.jA) (aj (aW T.b8 T.cT (pw 0)) ao))))
  aN)
  (au (fh T.fx (e.mono (by decide)) rfl rfl T.tf bQ (aj (bA rfl T.g7) (aj (aW T.b8 T.cT (pw 0)) ao))))),?_⟩
 left;show⟨_,b,_,rfl,rfl,?_⟩;by_cases e:c= "end";rw[Wt e]at a;rw[Wt (by rw[e])];show⟨_,b,_,rfl,q,rfl,a⟩;rw[Wn e]at a;rw[Wn (by simpa[bN]using e)];show⟨_,b,_,rfl,q,rfl,a⟩
inductive dM(cc:aC->ai)(H:Hp)(a:ai)(x:Str)(ts:Toks):Prop
 |mk (p:Nat) (_:Ob H a (cc "Reader") [("text",.str x),("place",.int p)]) (_:x.length<=sizeLine/\Lx x/\p<=x.length/\PM.tk (tl x) p=ts):dM cc H a x ts
inductive B_(cc:aC->ai)(b:ah V)(H:Hp)(Q:VK)(E:XK):Prop
 |mk (a x ts) (_:b=[.ref a]) (_:dM cc H a x ts) (_:∀q,q<=x.length->(∀c,(tl x)[q]? =some c->blank c=false/\(c==35)=false)->PM.tk (tl x) q=ts->Q (.int (q:Nat)) H):B_ cc b H Q E
theorem iz(a:En P w K B base CT cc I):Fv P w K B base CT (cc "Reader") "ahead" 3 ["self"] (B_ cc):=by show sV a a.iu ["self"] λf q A b s H e Q E d h c T=> ?_;obtain⟨q,x,s,rfl,⟨p,b,f,g,c,e⟩,k⟩:=h;show⟨_,(au (aJ (aR (w_ a) d aM (aj (aW T.bE T.eE (pw 0)) (aj (aW T.bE T.eT (pw 0)) ao))))),?_⟩;left;show⟨_,b,_,rfl,_,b,_,rfl,x,p,rfl,f,g,c,λq h=>k q ?_ h.here ?_⟩;rw[eS];show h.len;rw[<- h.eq];show e
inductive LB(cc:aC->ai)(e:ah V)(H:Hp)(Q:VK)(E:XK):Prop
 |mk (a x ts) (_:e=[.ref a]) (_:dM cc H a x ts) (_:(∀q k:Nat,ts=[(q,.bad k)]->cQ E [a] H (k,q))) (_:(∀q tok d y c b,PM.q9 (tl x) q ts tok d (tl y)->aD H b->oS cc b c d y q->Q (.ref c) b)):LB cc e H Q E
theorem i9(a:En P w K B base CT cc I):Fv P w K B base CT (cc "Reader") "look" 5 ["self"] (LB cc):=by show sV a a.iZ ["self"] λf b A c s H g Q E e h d T=> ?_;obtain⟨c,x,p,rfl,b,n,k⟩:=h;show⟨_,(au (aJ (aR (GD a) e bQ (aj (aW T.bE T.eE (pw 0)) (aj (dY T.bE (iz a) e aM (pw 0)) ao))))),?_⟩;left;right;obtain⟨e,⟨f,a⟩,j,_⟩:=id b;walk_at "u";show⟨_,⟨f,a⟩,_,rfl,_,_,a,rfl,c,x,p,rfl,b,λq i h e=>⟨x,q,rfl,j,i,h,λl g=>n q l (e▸g) H (bS.refl _ _),λtok m y d T o s t=>k q tok m y d T (e▸o) s t⟩⟩
inductive GF(cc:aC->ai)(e:ah V)(H:Hp)(Q:VK)(E:XK):Prop
 |mk (a x ts) (_:e=[.ref a]) (_:dM cc H a x ts) (_:(∀q k:Nat,ts=[(q,.bad k)]->cQ E [a] H (k,q))) (_:(∀q tok d y c b,PM.q9 (tl x) q ts tok d (tl y)->bS [a] H b->(tok≠.over->dM cc b a x (ts.drop 1))->oS cc b c d y q->Q (.ref c) b)):GF cc e H Q E
theorem i_(b:En P w K B base CT cc I):Fv P w K B base CT (cc "Reader") "take" 6 ["self"] (GF cc):=by
 show sV b b.i6 ["self","token"] λf c A d s H g Q E a h e T=> ?_;obtain⟨d,x,ts,rfl,c,f,k⟩:=h
 show⟨_,(aE (aP 1 e.nd (dY T.bE (i9 b) a bQ (pw 0)))
  (aE (bX T.bE T.eT (pw 0) (ef gZ (aW T.b8 T.cT (pw 1)) (bw eo rfl T.cO Xy (aj (aW T.b8 T.cD (pw 1)) ao))) rfl)
  (au (aJ (pw 1))))),?_⟩
 left;right;obtain⟨p,⟨T,a⟩,h,g,b,e⟩:=id c;walk_at "u";show⟨_,_,a,rfl,d,x,ts,rfl,c,f,λq tok e y b A n s t=>⟨b,rfl,_,t,_,rfl,b,rfl,_,t,_,rfl,y,rfl,?_,_,rfl,T,_,s _ _ a,by simp,?_⟩⟩;have:=n.le;rw[<- eS,<- eS]at this
 lia
 have c:=n.le;rw[<- eS,<- eS]at c;show k q tok e y b _ n ((aD.but s _).trans bS.upd) (λd=>⟨q+y.length,⟨T,?_⟩,h,g,c,?_⟩) ?_;rw[av];simp[cW,bN];obtain⟨c,b,T⟩:=n.ts;rcases T with T|T
 show absurd T d;rw[b,T,eS];rfl;obtain⟨b,T⟩:=t;show⟨b,?_⟩;rw[aF (bF T (s _ _ a) (by simp[bN]))];show T
noncomputable def hit (ts:Toks) (w:ah Nat):Bool:=match ts with
 |(_,.word v)::_=>v==w
 |(_,.sign c)::_=>[c]==w
 |_=>false
def jv(ts:Toks):Bool:=match ts with
 |(_,.bad _)::_=>true
 |_=>false
theorem Sf:J1 (.str a) (.str b)=(a==b):=rfl
theorem OI:J1 (.int a) (.int b)=(a==b):=rfl
theorem dM.cases(h:dM cc H a x ts):(∃q tok b w,PM.q9 (tl x) q ts tok b w)∨∃q k,ts=[(q,.bad k)]:=by obtain⟨p,_,_,_,b,c⟩:=h;rw[eS]at b;rw[<- c];show PM.Ld b
theorem u_{tok:VauowBase.Tok}{v w:ah Nat}(n:PM.q9 d q ts tok e v)(hw:∃c r,w=c::r/\digit c=false):hit ts w=decide (v=w):=by
 obtain⟨d,e,_⟩:=n.ts;obtain⟨c,r,rfl,d⟩:=hw;cases n.held with
 |word h n=>rw[e];change(v==c::r)=_;rw[Xg];simp
 |num h v n=>rw[e];change false=_;symm;rw[X8];rintro rfl;rw[Zd,d]at v;cases v
 | @sign d h=>rw[e];change([d]==c::r)=_;rw[Xg];simp
 |over=>rw[e];change false=_;simp
theorem Ed{tok:VauowBase.Tok}(n:PM.q9 a q e tok b v):jv e=false:=by obtain⟨a,e,_⟩:=n.ts;rw[e];cases n.held<;>rfl
theorem dM.same(h:dM cc H b x c)(s:aD H a):dM cc a b x c:=by obtain⟨p,a,r⟩:=h;show⟨p,aD.ob s a,r⟩
def GH(y:Str):Prop:=∃c r,tl y=c::r/\digit c=false
inductive jI(cc:aC->ai)(c:ah V)(H:Hp)(Q:VK)(E:XK):Prop
 |mk (a y x ts) (_:c=[.ref a,.str y]) (_:GH y) (_:dM cc H a x ts) (_:(jv ts=true->cQ E [a] H (faultAt ts))) (_:(hit ts (tl y)=true->∀b,bS [a] H b->dM cc b a x (ts.drop 1)->Q (.bl true) b)) (_:(jv ts=false->hit ts (tl y)=false->∀b,bS [a] H b->dM cc b a x ts->Q (.bl false) b)):jI cc c H Q E
theorem b9(a:En P w K B base CT cc I):Fv P w K B base CT (cc "Reader") "accepts" 7 ["self","wanted"] (jI cc):=by
 show sV a a.f5 ["self","wanted"] λt f A j s H b Q E e h p T=> ?_;obtain⟨c,y,x,ts,rfl,hw,b,f,g,i⟩:=h
 show⟨_,(aE (bz (aQ fK (aW T.b8 T.cD (dY T.bE (i9 a) e bQ (pw 0))) (pw 1) (a_ _))
  (au (aJ kX))
  aN)
  (aE (bP (dY T.bE (i_ a) e bQ (pw 0)))
  (au (aJ kX)))),?_⟩
 left;right;obtain⟨p,⟨a,T⟩,_⟩:=id b;walk_at "u";show⟨_,_,T,rfl,c,x,ts,rfl,b,λq k e=>by subst e;show f rfl,λq tok j z a d n s t=>⟨a,rfl,_,t,_,rfl,rfl,?_⟩⟩;have a:=u_ n hw;by_cases e:z=y;subst e;rw[WK rfl]at a;show .inl ⟨rfl,_,_,s _ _ T,rfl,c,x,ts,rfl,dM.same b s,λq k e=> ?_,λp o A r t f j m l H=> ?_⟩;subst e;cases a;show g a f ((aD.but s _).trans m) (l ?_);rintro rfl;obtain⟨_,e,_⟩:=j.ts;rw[e]at a;cases a;have:¬tl z=tl y:=λh=>e (q4 h);rw[WC this]at a;show .inr ⟨by simpa using e,i (Ed n) a d (aD.but s _) (dM.same b s)⟩
inductive rm(cc:aC->ai)(c:ah V)(H:Hp)(Q:VK)(E:XK):Prop
 |mk (a y x ts) (_:c=[.ref a,.str y]) (_:GH y) (_:dM cc H a x ts) (_:(hit ts (tl y)=false->cQ E [a] H (faultAt ts))) (_:(hit ts (tl y)=true->∀b,bS [a] H b->dM cc b a x (ts.drop 1)->Q .non b)):rm cc c H Q E
theorem gp(a:En P w K B base CT cc I):Fv P w K B base CT (cc "Reader") "want" 8 ["self","wanted"] (rm cc):=by
 show sV a a.i7 ["self","wanted"] λf d A y s H e Q E b h c T=> ?_;obtain⟨e,y,x,c,rfl,hw,f,g,k⟩:=h
 show⟨_,(au (bz (gM (dg (di T.bE (b9 a) b bQ (pw 0) (aj (pw 1) ao))))
  (au (bP (aR (ql a) b bQ (aj (dY T.bE (i9 a) b bQ (pw 0)) ao))))
  aN)),?_⟩
 left;right;obtain⟨p,⟨d,h⟩,_⟩:=id f;walk_at "u";show⟨_,_,h,rfl,e,y,x,c,rfl,hw,f,λb=>g ?_,λa d s r=> .inr ⟨rfl,k a d s r⟩,λb a d s r=> .inl ⟨rfl,?_⟩⟩;cases a:hit c (tl y)with
 |false=>rfl
 |true=>exfalso;unfold hit at a;unfold jv at b;split at a<;>simp_all
 right;obtain⟨f,⟨d,h⟩,_⟩:=id r;walk_at "u";show⟨_,_,h,rfl,e,x,c,rfl,r,λq k y=> ?_,λq tok T z f d n i t=>⟨f,T,z,q,rfl,t,?_⟩⟩;rw[y]at b;cases b;have:=g a d (s.trans (aD.but i _));rw[PM.lS n]at this;show this
theorem LC a z:(a==z)=(tl z==tl a):=by rw[Xg,XD,XD];show⟨λh=>by rw[h],λh=>(q4 h).symm⟩
inductive vd(cc:aC->ai)(d:ah V)(H:Hp)(Q:VK)(E:XK):Prop
 |mk (a x ts) (_:d=[.ref a]) (_:dM cc H a x ts) (_:(∀f,readName ts= .error f->cQ E [a] H f)) (_:(∀p w r y c b,readName ts= .ok ((p,w),r)->tl y=w->bS [a] H b->dM cc b a x r->oS cc b c "word" y p->Q (.ref c) b)):vd cc d H Q E
theorem jX(b:En P w K B base CT cc I):Fv P w K B base CT (cc "Reader") "take_name" 7 ["self"] (vd cc):=by
 show sV b b.e7 ["self","token"] λf d A e s H g Q E c h m T=> ?_;obtain⟨g,x,a,rfl,d,e,k⟩:=h
 show⟨_,(aE (aP 1 m.nd (dY T.bE (i_ b) c bQ (pw 0)))
  (aE (bz (PW.pt (J' (aQ fK (aW T.b8 T.eu (pw 1)) (cG rfl T.uX) (a_ _)) (FT (aQ nU (aW T.b8 T.cD (pw 1)) (tG rfl T.lP) (by with_unfolding_all rfl)))))
  (au (bP (aR (ql b) c bQ (aj (pw 1) ao))))
  aN)
  (au (aJ (pw 1))))),?_⟩
 left;right;obtain⟨p,⟨c,m⟩,_⟩:=id d;walk_at "u";show⟨_,_,m,rfl,g,x,a,rfl,d,λq k j=>by subst j;show e _ rfl,λq tok i z b c n s r t=>⟨b,rfl,_,t,_,rfl,rfl,?_⟩⟩;obtain⟨l,d,m⟩:=n.ts;have g:=PM.lS n;have j:∀f,readName a= .error f->faultAt a=f->qk cc [V.ref b] c (λx m=>Q (V.ref b) m) E:=by intro f m x;show⟨b,i,z,q,rfl,t,?_⟩;have:=e f m c s;rw[<- x,g]at this;show this
 by_cases e:i= "word"
 . subst e
   have hw:tok= .word (tl z):=by
    rcases n.held.is with⟨_,h,_⟩|⟨h,_⟩|⟨h,_⟩|⟨h,_⟩
    show h
    all_goals simp at h
   subst hw;show .inl ⟨rfl,b,rfl,_,t,_,rfl,_,.inr (T.fJ c),rfl,by decide,?_⟩;have f:F9 (.str z) [.str "table",.str "number",.str "from",.str "to",.str "ref",.str "none",.str "cascade",.str "clear",.str "unique"]=reserved.contains (tl z):=(by simp only[F9,Sf,Yn,List.any_nil,LC,reserved,WM,Z9,abN,List.contains_nil,cN,ascii]);have T:readName a=if reserved.contains (tl z)then .error (3,q)else .ok ((q,tl z),l):=by rw[d];rfl
   cases i:reserved.contains (tl z)with
   |true=>rw[i]at f T;rw[Wt f];show j _ T g
   |false=>rw[i]at f T;rw[Wn (by rw[f];simp)];show k q (tl z) l z b c T rfl s ?_ t;have:=r (by simp);rw[d]at this;show this
 . show .inr ⟨by simpa[bN]using e,j (faultAt a) ?_ rfl⟩;rw[d];rcases n.held.is with⟨h,_⟩|⟨_,h,_⟩|⟨_,c,h,_⟩|⟨_,h,_⟩
   show absurd h e
   all_goals(subst h;rfl)
inductive oU(cc:aC->ai)(c:ah V)(H:Hp)(Q:VK)(E:XK):Prop
 |mk (a d kvs x ts) (_:c=[.ref a,.ref d]) (_:dM cc H a x ts) (_:H d=some (.dK kvs)) (_:(∀f,readName ts= .error f->cQ E [a] H f)) (_:(∀p w r y,readName ts= .ok ((p,w),r)->tl y=w->((d7 kvs (Sum.inr y)).isSome=true->cQ E [a] H (6,p))/\((d7 kvs (Sum.inr y)).isSome=false->∀b,bS [a] H b->dM cc b a x r->Q (.str y) b))):oU cc c H Q E
theorem iA(b:En P w K B base CT cc I):Fv P w K B base CT (cc "Reader") "take_new_name" 8 ["self","taken"] (oU cc):=by
 show sV b b.dQ ["self","taken","token"] λe c A j s H p Q E a h f T=> ?_;have p:=d8 a;obtain⟨d,j,i,x,l,rfl,c,e,g,k⟩:=h
 show⟨_,(aE (aP 2 f.nd (dY T.bE (jX b) a bQ (pw 0)))
  (aE (bz (gX (m9 p (aW T.b8 T.cD (pw 2)) (pw 1)))
  (au (fh T.fx (a.mono (by decide)) rfl rfl T.tf bQ (aj (bA rfl T.jB) (aj (aW T.b8 T.cT (pw 2)) ao))))
  aN)
  (au (aJ (aW T.b8 T.cD (pw 2)))))),?_⟩
 left;right;obtain⟨p,⟨a,T⟩,_⟩:=id c;walk_at "u";show⟨_,_,T,rfl,d,x,l,rfl,c,g,λp w r y b a h f s j t=>⟨b,rfl,_,t,_,rfl,_,dJ.k (k:=Sum.inr y) (s _ _ (b6 (bF e T (by simp))) e),?_⟩⟩;obtain⟨T,c⟩:=k p w r y h f;cases e:(d7 i (Sum.inr y)).isSome with
 |true=>rw[Wt rfl];show⟨b,rfl,_,t,_,rfl,p,rfl,T e a s⟩
 |false=>rw[Wn (by simp)];show⟨b,rfl,_,t,_,rfl,c e a s j⟩
inductive qm(cc:aC->ai)(c:ah V)(H:Hp)(Q:VK)(E:XK):Prop
 |mk (a x ts) (_:c=[.ref a]) (_:dM cc H a x ts) (_:(∀f,readInt ts= .error f->cQ E [a] H f)) (_:(∀p n r b,readInt ts= .ok ((p,n),r)->bS [a] H b->dM cc b a x r->Q (.int n) b)):qm cc c H Q E
theorem Ef(h:tl (Str.ofString s)=[c])(a:digit c=false):GH (Str.ofString s):=⟨c,[],h,a⟩
theorem Ax{H:Hp}{d:ai}{x:Str}{ts:Toks}{E:XK}{A:V->Hp->Prop}{B:V->Hp->Prop}(C:dM cc H d x ts)(m:∀q l,ts=[(q,.bad l)]->cQ E [d] H (l,q))
 (u:∀q n r y b a,ts=(q,.num n)::r->bS [d] H a->dM cc a d x r->oS cc a b "number" y q->intText? y=some (n:Int)->y.length<=640->A (.ref b) a)
 (p:(∀q n r,ts≠(q,.num n)::r)->cQ E [d] H (faultAt ts))
 (G:∀b a,A (.ref b) a->B (.ref b) a):
 GF cc [V.ref d] H (λv f=>∃b,v=V.ref b/\∃fs,Ob f b (cc "Token") fs/\∃e,List.lookup (Str.ofString "kind") fs=some e/\Dl e (V.str (Str.ofString "number"))=true/\
  (e=V.str (Str.ofString "number")/\A v f∨¬e=V.str (Str.ofString "number")/\qk cc [v] f (λ_ f=>B v f) E)) E:=by
 show⟨d,x,ts,rfl,C,m,λq tok e y b a n s r t=>⟨b,rfl,_,t,_,rfl,rfl,?_⟩⟩;obtain⟨D,g,F⟩:=n.ts;by_cases j:e= "number";subst j;show .inl ⟨rfl,?_⟩;rcases n.held.is with⟨h,_⟩|⟨_,h,i,o,w⟩|⟨h,_⟩|⟨h,_⟩
 simp at h;subst h;have I:y.length<=7:=by rw[eS];unfold goodNumber at i;simp only[WV,XG]at i;show i.1.1
 have k :=r (by simp);rw[g]at k;show u q _ D y b a g s k t (Lz o w (by lia)) (by lia);simp at h;simp at h;show .inr ⟨by simpa[bN]using j,b,e,y,q,rfl,t,?_⟩
 have:=p (λK J k z=>by
  rw[g]at z;rcases n.held.is with⟨_,h,_⟩|⟨h,_⟩|⟨_,c,h,_⟩|⟨_,h,_⟩
  subst h;simp at z;show j h;subst h;simp at z;subst h;simp at z) a s
 rw[PM.lS n]at this;show this
theorem ji(j:En P w K B base CT cc I):Fv P w K B base CT (cc "Reader") "take_number" 8 ["self"] (qm cc):=by
 show sV j j.ez ["self","negative","token"] λxr xj Y xA s xg xC xh Z x h G T=> ?_;obtain⟨J,W,ts,rfl,y,m,k⟩:=h
 show⟨_,(aE (aP 1 G.nd (di T.bE (b9 j) x bQ (pw 0) (aj cz ao)))
  (aE (aP 2 G.nd (dY T.bE (i_ j) x bQ (pw 0)))
  (aE (bz (aQ fK (aW T.b8 T.eu (pw 2)) (cG rfl T.nq) (a_ _))
  (au (bP (aR (ql j) x bQ (aj (pw 2) ao))))
  aN)
  (au (aJ (jP (dg (pw 1)) (Oi Km (dH lJ rfl T.Ak boot_int (aj (aW T.b8 T.cD (pw 2)) ao))) (dH lJ rfl T.Ak boot_int (aj (aW T.b8 T.cD (pw 2)) ao)))))))),?_⟩
 left;right;obtain⟨xB,⟨xq,O⟩,_⟩:=id y;walk_at "u";show⟨_,_,O,rfl,J,_,W,ts,rfl,Ef (c:=45) rfl rfl,y,λb=> ?_,λa H f d=> ?_,λb a H f d=> ?_⟩;show m _ ?_;unfold jv at b;split at b;rfl;cases b
 have R:∃q r,ts=(q,.sign 45)::r:=by
  rcases dM.cases y with⟨q,tok,xx,w,n⟩|⟨q,k,e⟩
  have a:hit ts [45]=true:=a;rw[u_ n ⟨45,[],rfl,rfl⟩]at a;have hw:=XT a;subst hw;obtain⟨V,M,_⟩:=n.ts;rcases n.held.is with⟨_,h,_,c,r,o,Q⟩|⟨_,h,xu,N,_⟩|⟨_,c,h,o,_⟩|⟨_,h,hw⟩
  cases o;cases Q;cases N;cases o;subst h;show⟨q,V,M⟩;cases hw;rw[e]at a;cases a
 right;obtain⟨U,F,l⟩:=R;obtain⟨S,⟨L,v⟩,_⟩:=id d;walk_at "u";rw[l]at d;show⟨_,_,v,rfl,Ax (ts:=F) d (λq k e=> ?_) (λq n r D i g e s A C p t=> .inr ⟨rfl,i,rfl,_,C,_,rfl,D,rfl,_,p,t,?_⟩) (λu=> ?_) λi g h=>h⟩;show cQ.on (m (k,q) ?_) f;rw[l,e];rfl;show k U _ r g ?_ (f.trans s) A;rw[l,e];rfl;show cQ.on (m (faultAt F) ?_) f;rw[l];unfold readInt;split;rename_i z;simp at z;rename_i z;simp at z;show absurd z.2 (u _ _ _);rename_i z;simp at z;rw[z.2];rename_i xE xF X;show absurd rfl (X _ _);right;obtain⟨S,⟨L,v⟩,_⟩:=id d;walk_at "u";have E:∀q r,ts≠(q,.sign 45)::r:=by intro q r z;rw[z]at a;cases a
 show⟨_,_,v,rfl,Ax (ts:=ts) d (λq k e=> ?_) (λq n r D i g e s A C p t=> .inl ⟨rfl,i,rfl,_,C,_,rfl,D,rfl,_,p,t,?_⟩) (λu=> ?_) λi g h=>h⟩;rw[e]at b;cases b;show k q _ r g ?_ (f.trans s) A;rw[e];rfl;show cQ.on (m (faultAt ts) ?_) f;unfold readInt;split;show absurd rfl (u _ _ _);show absurd rfl (E _ _);show absurd rfl (E _ _);rfl
noncomputable def iB (lo a:Int) (d:V) (b:Bool) (c:Str) (un:Bool):ah (Str×V):=[("low",.int lo),("high",.int a),("target",d),("optional",.bl b),("removal",.str c),("unique",.bl un)]
abbrev r4(cc:aC->ai)(H:Hp)(c:ai)(lo a:Int)(e:V)(b:Bool)(d:Str)(un:Bool):Prop:=Ob H c (cc "Column") (iB lo a e b d un)
inductive Ay(cc:aC->ai)(b:ah V)(H:Hp)(Q:VK)(c:XK):Prop
 |mk (a dx) (_:b=[.ref a]) (_:H a=some (.ins (cc "Column") dx [])) (_:Q .non (upd H a (.ins (cc "Column") dx (iB (-1000000) 1000000 .non false "refuse" false)))):Ay cc b H Q c
theorem LD(a:En P w K B base CT cc I):MN P w K B base CT (cc "Column") "Column" 1 ["self"] (Ay cc):=by
 show Jm a a.DY a.fF ["self"] λf b A c s H e Q E q h d T=> ?_;obtain⟨A,a,rfl,b,q⟩:=h
 show⟨_,(aE (bX T.bL T.eZ (pw 0) (bA rfl T.gn) rfl)
  (aE (bX T.bL T.eF (pw 0) (bA rfl T.g9) rfl)
  (aE (bX T.bL T.bR (pw 0) iM rfl)
  (aE (bX T.bL T.cH (pw 0) kX rfl)
  (aE (bX T.bL T.dj (pw 0) (cG rfl T.nu) rfl)
  (au (bX T.bL T.d_ (pw 0) kX rfl))))))),?_⟩
 left;show⟨a,[],b,?_⟩;simp[cW,iy,bN];show q
inductive Az(cc:aC->ai)(d:ah V)(H:Hp)(Q:VK)(e:XK):Prop
 |mk (a c b kd y p dx) (_:d=[.ref a,.ref c,.ref b]) (_:H a=some (.ins (cc "Mention") dx [])) (_:oS cc H b kd y p) (_:Q .non (upd H a (.ins (cc "Mention") dx [("column",.ref c),("name",.str y),("place",.int p)]))):Az cc d H Q e
theorem Jv(a:En P w K B base CT cc I):MN P w K B base CT (cc "Mention") "Mention" 1 ["self","column","token"] (Az cc):=by
 show Jm a a.An a.e8 ["self","column","token"] λf c A d s H q Q E b h p T=> ?_;obtain⟨a,H,A,f,y,p,d,rfl,b,c,q⟩:=h
 show⟨_,(aE (bX T.dc T.eU (pw 0) (pw 1) rfl)
  (aE (bX T.dc T.eV (pw 0) (aW T.b8 T.cD (pw 2)) rfl)
  (au (bX T.dc T.fj (pw 0) (aW T.b8 T.cT (pw 2)) rfl)))),?_⟩
 left;obtain⟨T,a⟩:=c;have c:=bF a b (by simp);show⟨d,[],b,by simp,_,⟨T,by rw[aF c];show a⟩,_,rfl,by simp[iy],_,⟨T,by rw[aF c];show a⟩,_,rfl,by simp[iy,cW,bN],?_⟩;simpa[iy,cW,bN]using q
theorem ve(h:2<=(tl (Str.ofString s)).length):hit ts (tl (Str.ofString s))=isWord s ts:=by
 unfold hit isWord;rw[cN]at*;split;rfl;rename_i c _;have:([c]==s.toList.map Char.toNat)=false:=by rw[Xs];intro z;rw[<- z]at h;simp at h
 show this;rename_i a b;split;show absurd rfl (a _ _ _);rfl
theorem Eg(d:dM cc H e x a)(h:small c=false)(n:digit c=false):hit a [c]=isSign c a:=by
 rcases dM.cases d with⟨q,tok,a,w,n⟩|⟨q,k,e⟩
 obtain⟨d,a,_⟩:=n.ts;rw[a];rcases n.held.is with⟨_,e,_,d,r,hw,a⟩|⟨_,e,_⟩|⟨_,d,e,_⟩|⟨_,e,_⟩
 subst e;change(w==[c])=false;rw[Xs,hw];intro z;cases z;rw[h]at a;cases a;subst e;rfl;subst e;change([d]==[c])=(c==d);rw[Xg,XD,XD];show⟨λz=>by cases z;rfl,λz=>by rw[z]⟩;subst e;rfl;subst e;rfl
theorem dM.m(h:dM cc H a x q){m:aC}(b:m≠"text"/\m≠"place")(p:A):∃dx fs,H a=some (.ins (cc "Reader") dx fs)/\List.lookup (Str.ofString m) fs=none/\A:=by obtain⟨q,⟨dx,H⟩,_⟩:=h;show⟨dx,_,H,?_,p⟩;rw[rj,rj,Wn (by rw[bN];show b.1),Wn (by rw[bN];show b.2)];rfl
theorem acc s(g:∃c d r,s.toList.map Char.toNat=c::d::r/\digit c=false)(f:dM cc H b x ts)(h:jv ts=true->cQ E [b] H (faultAt ts))
 (i:isWord s ts=true->∀a,bS [b] H a->dM cc a b x (ts.drop 1)->Q (.bl true) a) (j:jv ts=false->isWord s ts=false->∀a,bS [b] H a->dM cc a b x ts->Q (.bl false) a):
 jI cc [.ref b,.str (Str.ofString s)] H Q E:=by
 obtain⟨c,d,r,e,a⟩:=g;have hw:=ve (ts:=ts) (s:=s) (by rw[cN,e];simp);show⟨b,_,x,ts,rfl,⟨c,d::r,by rw[cN,e],a⟩,f,h,?_,?_⟩;rw[hw];show i;rw[hw];show j
theorem Sg s d(f:s.toList.map Char.toNat=[d])(h:small d=false/\digit d=false)(e:dM cc H c x a)(g:jv a=true->cQ E [c] H (faultAt a))
 (i:isSign d a=true->∀b,bS [c] H b->dM cc b c x (a.drop 1)->Q (.bl true) b) (j:jv a=false->isSign d a=false->∀b,bS [c] H b->dM cc b c x a->Q (.bl false) b):
 jI cc [.ref c,.str (Str.ofString s)] H Q E:=by
 have hw:hit a (tl (Str.ofString s))=isSign d a:=by rw[cN,f];show Eg e h.1 h.2
 show⟨c,_,x,a,rfl,⟨d,[],by rw[cN,f],h.2⟩,e,g,?_,?_⟩;rw[hw];show i;rw[hw];show j
theorem OJ s(g:∃c d r,s.toList.map Char.toNat=c::d::r/\digit c=false)(f:dM cc H a x ts)(h:isWord s ts=false->cQ E [a] H (faultAt ts))
 (i:isWord s ts=true->∀b,bS [a] H b->dM cc b a x (ts.drop 1)->Q .non b):rm cc [.ref a,.str (Str.ofString s)] H Q E:=by
 obtain⟨c,d,r,e,b⟩:=g;have hw:=ve (ts:=ts) (s:=s) (by rw[cN,e];simp);show⟨a,_,x,ts,rfl,⟨c,d::r,by rw[cN,e],b⟩,f,?_,?_⟩;rw[hw];show h;rw[hw];show i
theorem LG s c(f:s.toList.map Char.toNat=[c])(h:small c=false/\digit c=false)(e:dM cc H b x a)(g:isSign c a=false->cQ E [b] H (faultAt a))
 (i:isSign c a=true->∀d,bS [b] H d->dM cc d b x (a.drop 1)->Q .non d):rm cc [.ref b,.str (Str.ofString s)] H Q E:=by
 have hw:hit a (tl (Str.ofString s))=isSign c a:=by rw[cN,f];show Eg e h.1 h.2
 show⟨b,_,x,a,rfl,⟨c,[],by rw[cN,f],h.2⟩,e,?_,?_⟩;rw[hw];show g;rw[hw];show i
theorem cQ.mono{l m:ah ai}(h:cQ E l H f)(s:∀b∈m,b∈l):cQ E m H f:=λa b=>h a (b.mono s)
theorem dM.but(h:dM cc H a x c)(s:bS l H b)(n:a∉l):dM cc b a x c:=by obtain⟨p,a,r⟩:=h;show⟨p,s.ob a n,r⟩
theorem GJ{lo e:Int}{un:Bool}(h:dM cc H a x g)(b:r4 cc H c lo e f d p un):a≠c:=by obtain⟨p,⟨c,a⟩,_⟩:=h;obtain⟨c,e⟩:=b;show bF a e (by simp[iB])
theorem ahead(d:dM cc H b x a)(k:here a<=x.length->(∀c,VauowBase.signs.contains c=true->isSign c a=decide ((tl x)[here a]? =some c))->Q (.int (here a:Nat)) H):B_ cc [.ref b] H Q E:=by show⟨b,x,a,rfl,d,λq c H e=> ?_⟩;subst e;rw[eS]at c;obtain⟨a,b⟩:=PM.Nz c H;have:=k (by rw[a,eS];show c) (by rw[a];show b);rw[a]at this;show this
theorem Ca(h:readInt a= .ok ((p,n),r)):p=here a:=by unfold readInt at h;split at h;cases h;rfl;cases h;rfl;cases h;cases h
inductive Ij(cc:aC->ai)(e:ah V)(H:Hp)(Q:VK)(E:XK):Prop
 |mk (a c x ts) (_:e=[.ref a,.ref c]) (_:dM cc H a x ts) (_:r4 cc H c (-1000000) 1000000 .non false "refuse" false) (_:(jv ts=true->cQ E [a,c] H (faultAt ts))) (_:(∀f,readRange ts= .error f->cQ E [a,c] H f)) (_:(∀lo d r b,readRange ts= .ok (.number lo d,r)->bS [a,c] H b->dM cc b a x r->r4 cc b c lo d .non false "refuse" false->Q .non b)):Ij cc e H Q E
theorem Cb(b:En P w K B base CT cc I):fc P w K B base CT "read_range" 9 ["reader","column"] (Ij cc):=by
 show cg b b.fs.Bl ["reader","column","place"] λi m A s j H a Q E d h r T=> ?_;obtain⟨a,c,x,n,rfl,m,p,s,k,t⟩:=h
 show⟨_,(aE (bz (gM (dg (di T.bE (b9 b) d bQ (pw 0) (aj cz ao))))
  (au Ht)
  aN)
  (aE (bX T.bL T.eZ (pw 1) (dY T.bE (ji b) d bQ (pw 0)) rfl)
  (aE (bP (di T.bE (gp b) d bQ (pw 0) (aj cz ao)))
  (aE (aP 2 r.nd (dY T.bE (iz b) d aM (pw 0)))
  (aE (bX T.bL T.eF (pw 1) (dY T.bE (ji b) d bQ (pw 0)) rfl)
  (au (bz (aQ rS (aW T.bL T.eF (pw 1)) (aW T.bL T.eZ (pw 1)) (a_ _))
  (au (fh T.fx (d.mono (by decide)) rfl rfl T.tf bQ (aj (bA rfl T.gm) (aj (pw 2) ao))))
  aN))))))),?_⟩
 left;have e:=GJ m p;have T:∀b∈[a],b∈[a,c]:=by simp
 have u:∀b∈[c],b∈[a,c]:=by simp
 show dM.m m (by decide) (acc "from" ⟨102,114,_,rfl,rfl⟩ m (λd=>(s d).mono T) (λf q g l=> .inr ⟨rfl,?_⟩) (λd f q g l=> .inl ⟨rfl,?_⟩))
 . have h:readRange n=(readInt (n.drop 1)).bind λa=>(wantWord "to" a.2).bind λm=>(readInt m).bind λb=>if b.1.2<a.1.2 then .error (8,b.1.1)else .ok (.number a.1.2 b.1.2,b.2):=Wt f
   have j:=g.ob p (b6 e.symm);show dM.m l (by decide) ⟨a,x,_,rfl,l,λi o=>cQ.mono (cQ.on (k i (by rw[h,o];rfl)) (g.mono T)) T,λr lo d s m v y => ?_⟩;rw[m]at h;obtain⟨r,m⟩:=v.ob j (b6 e.symm);show⟨r,_,m,by simp[iB],?_⟩;simp only[iB,cW,Wt];generalize m:upd s c _=j;have s:bS [a,c] H j:=(g.mono T).trans ((v.mono T).trans (m▸bS.upd.mono u));have A:r4 cc j c lo 1000000 .non false "refuse" false:=m▸⟨r,av⟩;have r:dM cc j a x d:=y.but (m▸bS.upd (o:=_)) (b6 e);show dM.m r (by decide) (OJ "to" ⟨116,111,_,rfl,rfl⟩ r (λf=> ?_) (λf j y m=> ?_))
   . show(cQ.on (k (faultAt d) ?_) s).mono T;rw[h];change(wantWord "to" d).bind _=_;unfold wantWord;rw[f];rfl
   . have hw:wantWord "to" d= .ok (d.drop 1):=(by unfold wantWord;rw[f];rfl);have j:readRange n=(readInt (d.drop 1)).bind λb=>if b.1.2<lo then .error (8,b.1.1)else .ok (.number lo b.1.2,b.2):=by rw[h];change(wantWord "to" d).bind _=_;rw[hw];rfl
     have r:=s.trans (y.mono T);show dM.m m (by decide) (ahead m λC _=>dM.m m (by decide) ⟨a,x,_,rfl,m,λi o=> ?_,λF h v s b z D => ?_⟩)
     . show(cQ.on (k i ?_) r).mono T;rw[j,o];rfl
     . rw[b]at j;have C:=Ca b;obtain⟨o,m⟩:=z.ob (y.ob A (b6 e.symm)) (b6 e.symm);show⟨o,_,m,by simp[iB],?_⟩;simp only[iB,cW,Wt,bN];simp only[String.reduceEq,YN];generalize m:upd s c _=b;have s:bS [a,c] H b:=r.trans ((z.mono T).trans (m▸bS.upd.mono u));have i:r4 cc b c lo h .non false "refuse" false:=m▸⟨o,av⟩;have r:dM cc b a x v:=D.but (m▸bS.upd (o:=_)) (b6 e);show⟨_,i,_,rfl,_,i,_,rfl,_,rfl,_,rfl,?_⟩;by_cases a:h<lo
       . rw[Wt a];show⟨_,rfl,k (8,here (d.drop 1)) ?_ b s⟩;rw[j,<- C];change(if h<lo then _ else _)=_;rw[Wt a]
       . rw[Wn a];show t lo h v b ?_ s r i;rw[j];change(if h<lo then _ else _)=_;rw[Wn a]
 . show t _ _ n q (Wn (by rw[f];simp)) (g.mono T) l (g.ob p (b6 e.symm))
def jw:Away->Str
 | .keep=> "refuse"
 | .cascade=> "cascade"
 | .clear=> "clear"
noncomputable def eW (n:Bool) (r:Toks):Except TextFault (Away×Toks):=if isWord "cascade" r then .ok (.cascade,r.drop 1)else if isWord "clear" r then(if n then .ok (.clear,r.drop 1)else .error (8,here r))else .ok (.keep,r)
inductive rq(cc:aC->ai)(e:ah V)(H:Hp)(Q:VK)(E:XK):Prop
 |mk (a c x ts lo hi tg op un) (_:e=[.ref a,.ref c]) (_:dM cc H a x ts) (_:r4 cc H c lo hi tg op "refuse" un) (_:(jv ts=true->cQ E [a,c] H (faultAt ts))) (_:(∀f,eW op ts= .error f->cQ E [a,c] H f)) (_:(∀d r b,eW op ts= .ok (d,r)->bS [a,c] H b->dM cc b a x r->r4 cc b c lo hi tg op (jw d) un->Q .non b)):rq cc e H Q E
theorem vf(a:En P w K B base CT cc I):fc P w K B base CT "read_removal" 8 ["reader","column"] (rq cc):=by
 show cg a a.fs.uc ["reader","column","place"] λf b A i s H c Q E d h g T=> ?_;obtain⟨b,e,x,r,lo,i,A,t,un,rfl,f,k,p,s,n⟩:=h
 show⟨_,(aE (bz (dg (di T.bE (b9 a) d bQ (pw 0) (aj cz ao)))
  (aE (bX T.bL T.dj (pw 1) (cG rfl T.lg) rfl)
  (au Ht))
  aN)
  (aE (aP 2 g.nd (dY T.bE (iz a) d aM (pw 0)))
  (au (bz (dg (di T.bE (b9 a) d bQ (pw 0) (aj cz ao)))
  (aE (bz (gM (dg (aW T.bL T.cH (pw 1))))
  (au (fh T.fx (d.mono (by decide)) rfl rfl T.tf bQ (aj (bA rfl T.gm) (aj (pw 2) ao))))
  aN)
  (au (bX T.bL T.dj (pw 1) (cG rfl T.qh) rfl)))
  aN)))),?_⟩
 left;have c:=GJ f k;have T:∀d∈[b],d∈[b,e]:=by simp
 have q:∀d∈[e],d∈[b,e]:=by simp
 show dM.m f (by decide) (acc "cascade" ⟨99,97,_,rfl,rfl⟩ f (λg=>(p g).mono T) (λh i a d=> ?_) (λg h i a d=> ?_));show .inr ⟨rfl,?_⟩;obtain⟨f,b⟩:=a.ob k (b6 c.symm);show⟨f,_,b,by simp[iB],?_⟩;simp only[iB,cW,Wt,bN];simp only[String.reduceEq,YN];generalize b:upd i e _=m;show n .cascade _ m (Wt h) ((a.mono T).trans (b▸bS.upd.mono q)) (d.but (b▸bS.upd (o:=_)) (b6 c)) (b▸⟨f,av⟩);show .inl ⟨rfl,dM.m d (by decide) (ahead d λA _=>dM.m d (by decide) (acc "clear" ⟨99,108,_,rfl,rfl⟩ d (λg=> ?_) (λl j i o=> .inr ⟨rfl,?_⟩) (λg l j i o=> .inl ⟨rfl,?_⟩)))⟩;show(cQ.on (p g) (a.mono T)).mono T;have d:=i.ob (a.ob k (b6 c.symm)) (b6 c.symm);have g:=(a.mono T).trans (i.mono T);show⟨_,d,_,rfl,?_⟩;cases t with
 |false=>show .inl ⟨rfl,_,rfl,s (8,here r) ?_ j g⟩;unfold eW;rw[h,l];rfl
 |true=>obtain⟨f,d⟩:=d;show .inr ⟨rfl,f,_,d,by simp[iB],?_⟩;simp only[iB,cW,Wt,bN];simp only[String.reduceEq,YN];generalize b:upd j e _=m;show n .clear _ m ?_ (g.trans (b▸bS.upd.mono q)) (o.but (b▸bS.upd (o:=_)) (b6 c)) (b▸⟨f,av⟩);unfold eW;rw[h,l];rfl
 show n .keep r j ?_ ((a.mono T).trans (i.mono T)) o (i.ob (a.ob k (b6 c.symm)) (b6 c.symm));unfold eW;rw[h,l];rfl
def Ik(cc:aC->ai)(H:Hp)(b c:ai)(y:Str)(p:Nat):Prop:=Ob H b (cc "Mention") [("column",.ref c),("name",.str y),("place",.int p)]
noncomputable def f7 (k:RawKind×Toks):Except TextFault ((RawKind×Bool)×Toks):=(wantSign 59 (if isWord "unique" k.2 then k.2.drop 1 else k.2)).bind λr=> .ok ((k.1,isWord "unique" k.2),r)
noncomputable def gI (a:Toks):Except TextFault ((RawKind×Bool)×Toks):=(wantSign 58 a).bind λq=>(readKind q).bind f7
theorem GK a:readRef a=(readName a).bind λw=>(eW (isWord "none" w.2) (if isWord "none" w.2 then w.2.drop 1 else w.2)).bind λz=> .ok (.ref w.1.1 w.1.2 (isWord "none" w.2) z.1,z.2):=by unfold readRef eW;congr 1;funext w;dsimp only;generalize(if isWord "none" w.2=true then w.2.drop 1 else w.2)=r;split;rfl;split;cases isWord "none" w.2<;>rfl;rfl
noncomputable def oV (k:RawKind) (u:Bool):ah (Str×V):=match k with
 | .number lo a=>iB lo a .non false "refuse" u
 | .ref _ _ n a=>iB (-1000000) 1000000 .non n (jw a) u
abbrev jY(cc:aC->ai)(H:Hp)(c:ai)(k:RawKind)(u:Bool):Prop:=Ob H c (cc "Column") (oV k u)
theorem Eh k u a :cA (Str.ofString "unique") (.bl a) (oV k u)=oV k a :=by cases k<;>simp[oV,iB,cW,bN]
theorem kind_len k u:(oV k u).length<1000:=by cases k<;>simp[oV,iB]
theorem qn{k:RawKind}(h:dM cc H a x e)(b:jY cc H c k u):a≠c:=by obtain⟨p,⟨c,a⟩,_⟩:=h;obtain⟨c,e⟩:=b;show bF a e (by cases k<;>simp[oV,iB])
theorem jD(h:jv a=true):(∀s,isWord s a=false)/\∀c,isSign c a=false:=by unfold jv at h;split at h;show⟨λ_=>rfl,λ_=>rfl⟩;cases h
def tN(cc:aC->ai)(Q:VK)(E:XK)(b c:ai)(a:Hp):Prop:=
 ∃f fs,a b=some (HO.ins (cc "Reader") f fs)/\List.lookup (Str.ofString "accepts") fs=none/\jI cc [V.ref b,V.str (Str.ofString "unique")] a (λy a=>
  ∃e d,a c=some (HO.ins (cc "Column") e d)/\d.length<1000/\∃f fs,upd a c (HO.ins (cc "Column") e (cA (Str.ofString "unique") y d)) b=some (HO.ins (cc "Reader") f fs)/\List.lookup (Str.ofString "want") fs=none/\
   rm cc [V.ref b,V.str (Str.ofString ";")] (upd a c (HO.ins (cc "Column") e (cA (Str.ofString "unique") y d))) (λ_ a=>Q (V.ref c) a) E) E
theorem LH(i:dM cc d b x r)(m:jY cc d c n false)
 (j:∀f,wantSign 59 (if isWord "unique" r then r.drop 1 else r)= .error f->cQ E [b,c] d f)
 (k:∀f a,wantSign 59 (if isWord "unique" r then r.drop 1 else r)= .ok f->bS [b,c] d a->dM cc a b x f->jY cc a c n (isWord "unique" r)->Q (.ref c) a):
 tN cc Q E b c d:=by
 unfold tN;have h:=qn i m;have f:∀a∈[b],a∈[b,c]:=by simp
 have p:∀a∈[c],a∈[b,c]:=by simp
 have o:∀(u:Bool)(l:Toks)(a:Hp),isWord "unique" r=u->(if isWord "unique" r then r.drop 1 else r)=l->bS [b] d a->dM cc a b x l->
  ∃g r,a c=some (HO.ins (cc "Column") g r)/\r.length<1000/\∃e fs,upd a c (HO.ins (cc "Column") g (cA (Str.ofString "unique") (.bl u) r)) b=some (HO.ins (cc "Reader") e fs)/\List.lookup (Str.ofString "want") fs=none/\
   rm cc [V.ref b,V.str (Str.ofString ";")] (upd a c (HO.ins (cc "Column") g (cA (Str.ofString "unique") (.bl u) r))) (λ_ d=>Q (V.ref c) d) E:=by
  intro u l a g b d r;rw[b]at j k;rw[g]at k;obtain⟨e,b⟩:=d.ob m (b6 h.symm);show⟨e,_,b,kind_len _ _,?_⟩;rw[Eh];generalize b:upd a c _=l;have g:=(d.mono f).trans (b▸bS.upd.mono p);have m:jY cc l c n u:=b▸⟨e,av⟩;have c:=r.but (b▸bS.upd (o:=_)) (b6 h);show dM.m c (by decide) (LG ";" 59 rfl (by decide) c (λb=>(cQ.on (j _ ?_) g).mono f) (λb l e n=>k _ l ?_ (g.trans (e.mono f)) n (e.ob m (b6 h.symm))));unfold wantSign;rw[b];rfl;unfold wantSign;rw[b];rfl
 show dM.m i (by decide) (acc "unique" ⟨117,110,_,rfl,rfl⟩ i (λc=>(j _ ?_).mono f) (λb a d r=>o true _ a b (Wt b) d r) (λc b a d r=>o false _ a b (Wn (by rw[b];simp)) d r));obtain⟨a,b⟩:=jD c;rw[a,Wn (by simp)];unfold wantSign;rw[b];rfl
def GN(cc:aC->ai)(H:Hp)(d:ai)(k:RawKind)(a c :ah V):Prop:=match k with
 | .number _ _=>c =a
 | .ref p w _ _=>∃b y,tl y=w/\c =a++[.ref b]/\Ik cc H b d y p
inductive Ei(cc:aC->ai)(g:ah V)(H:Hp)(Q:VK)(E:XK):Prop
 |mk (a m x ts ms) (_:g=[.ref a,.ref m]) (_:dM cc H a x ts) (_:H m=some (.lst ms)) (_:ms.length<1000) (_:(∀f,gI ts= .error f->cQ E [a,m] H f)) (_:(∀d u r c e b,gI ts= .ok ((d,u),r)->H c=none->bS [a,m] H b->dM cc b a x r->jY cc b c d u->b m=some (.lst e)->GN cc b c d ms e->Q (.ref c) b)):Ei cc g H Q E
theorem vg{k:RawKind×Toks}(h:jv k.2=true):f7 k= .error (faultAt k.2):=by obtain⟨k,a⟩:=jD h;unfold f7;rw[k,Wn (by simp)];unfold wantSign;rw[a];rfl
theorem Jw lo a d e b c un:cA (Str.ofString "optional") (.bl b) (iB lo a d e c un)=iB lo a d b c un:=by simp[iB,cW,bN]
theorem xm(b:En P w K B base CT cc I):fc P w K B base CT "read_column" 10 ["reader","mentions"] (Ei cc):=by
 show cg b b.fs.wL ["reader","mentions","column"] λg z A v s u q Q E c d L T=> ?_;have U:=d8 c;obtain⟨a,m,C,p,x,rfl,z,q,v,o,k⟩:=d
 show⟨_,(aE (aP 2 L.nd (HZ (LD b) c aM))
  (aE (bP (di T.bE (gp b) c bQ (pw 0) (aj cz ao)))
  (aE (bz (dg (di T.bE (b9 b) c bQ (pw 0) (aj cz ao)))
  (au (bP (aR (Cb b) c bQ (aj (pw 0) (aj (pw 2) ao)))))
  (aE (bP (di T.bE (gp b) c bQ (pw 0) (aj cz ao)))
  (aE (bP (fB W8 Xl Xq dh (pw 1) (aj (pH (Jv b) c aM (aj (pw 2) (aj (dY T.bE (jX b) c bQ (pw 0)) ao))) ao)))
  (aE (bX T.bL T.cH (pw 2) (di T.bE (b9 b) c bQ (pw 0) (aj cz ao)) rfl)
  (au (bP (aR (vf b) c bQ (aj (pw 0) (aj (pw 2) ao)))))))))
  (aE (bX T.bL T.d_ (pw 2) (di T.bE (b9 b) c bQ (pw 0) (aj cz ao)) rfl)
  (aE (bP (di T.bE (gp b) c bQ (pw 0) (aj cz ao)))
  (au (aJ (pw 2)))))))),?_⟩
 left;intro c L r f v;show⟨c,L,rfl,av,rfl,?_⟩;rw[lH];obtain⟨T,H⟩:=D0 (C:=cc "Column") (fs:=iB (-1000000) 1000000 .non false "refuse" false) r f v;generalize upd (upd u L (HO.own c)) c _=t at T H|-;have L:=dM.same z T;have N:=T _ _ q;have R:=GJ L H;have S:=aA q r;have O:m≠a:=by obtain⟨_,⟨_,e⟩,_⟩:=z;show bF q e (by simp)
 have fr:∀b,bS [a,m,c] t b->bS [a,m] u b :=λb f z v q e=>f z v (by have:=aA e r;simp at q|-;show⟨q.1,q.2,this⟩) (T _ _ e);have h:∀g,gI p= .error g->∀T,bS [a,m,c] t T->cQ E [a,m,c] T g:=λg e T f b z =>o g e b (fr b (f.trans z));have i:∀f∈[a],f∈[a,m,c]:=by simp
 have n:∀f∈[a,c],f∈[a,m,c]:=by
  intro f b;simp at b|-;rcases b with d|d
  show .inl d;show .inr (.inr d)
 have s:c∉[a]:=by simpa using R.symm
 have o:m∉[a]:=by simpa using O
 have J:m∉[a,c]:=by simpa using⟨O,S⟩
 have tail:∀(q:RawKind)(D:Toks)(d:Hp)(u :ah V),gI p=f7 (q,D)->bS [a,m,c] t d->dM cc d a C D->jY cc d c q false->d m=some (.lst u)->(∀T,bS [a,c] d T->GN cc T c q x u)->tN cc Q E a c d:=λq D d u e f y v G M=>LH (Q:=Q) (E:=E) y v (λg l=>(h g (by rw[e];unfold f7;rw[l];rfl) d f).mono n) (λW T l j z A=>k q _ W c u T (by rw[e];unfold f7;rw[l];rfl) r (fr T (f.trans (j.mono n))) z A (j _ _ J G) (M T j));show dM.m L (by decide) (LG ":" 58 rfl (by decide) L (λq=>(h _ ?_ t (bS.refl _ _)).mono i) (λq v A r=> ?_));unfold gI wantSign;rw[q];rfl;have u:gI p=(readKind (p.drop 1)).bind f7:=by unfold gI wantSign;rw[q];rfl
 have L:=A.mono i;show dM.m r (by decide) (acc "number" ⟨110,117,_,rfl,rfl⟩ r (λb=>(h _ ?_ v L).mono i) (λG d q y=> .inr ⟨rfl,?_⟩) (λb G d q y=> .inl ⟨rfl,?_⟩));obtain⟨r,v⟩:=jD b;rw[u];unfold readKind;rw[r,r];rfl;have r:readKind (p.drop 1)=readRange ((p.drop 1).drop 1):=Wt G;rw[r]at u;have v:=L.trans (q.mono i);show⟨a,c,C,_,rfl,y,q.ob (A.ob H s) s,λb=>(h _ ?_ d v).mono n,λg l=>(h _ ?_ d v).mono n,λlo X D T W j z M=>tail (.number lo X) D T x ?_ (v.trans (j.mono n)) z M (j _ _ J (q _ _ o (A _ _ o N))) (λ_ _=>rfl)⟩;rw[u];unfold readRange;rw[(jD b).1,Wn (by simp)];show vg b;rw[u,l];rfl;rw[u,W];rfl;have v:=L.trans (q.mono i);show dM.m y (by decide) (OJ "ref" ⟨114,101,_,rfl,rfl⟩ y (λL=>(h _ ?_ d v).mono i) (λL T D z=>⟨⟨x,bG.of (D _ _ o (q _ _ o (A _ _ o N)))⟩,?_⟩));rw[u];unfold readKind;rw[G,L];rfl;have r:gI p=(readRef ((p.drop 1).drop 1)).bind f7:=by rw[u];unfold readKind;rw[G,L];rfl
 rw[GK]at r;have j:=v.trans (D.mono i);have d:=D _ _ o (q _ _ o (A _ _ o N));have M:=D.ob (q.ob (A.ob H s) s) s;show dM.m z (by decide) ⟨a,C,_,rfl,z,λg l=>(h _ ?_ T j).mono i,λv w q y f A u Y L H G=> ?_⟩;rw[r,l];rfl;rw[u]at r;intro e u T z D;show⟨e,c,f,_,y,v,u,rfl,av,aD.ob (D0 T z D).1 G,rfl,?_⟩;rw[lH];have G:=L _ _ o d;have f:=L.ob M s;obtain⟨d,o⟩:=D0 (C:=cc "Mention") (fs:=[("column",.ref c),("name",.str y),("place",.int v)]) T z D;generalize upd (upd A u (HO.own e)) e _=M at d o|-;show⟨x,d _ _ G,by rw[Wx];lia,?_⟩;generalize z:upd M m (.lst (x++[.ref e]))=D;have u:=z▸bS.upd;have A:=j.trans ((L.mono i).trans ((aD.but d _).trans (u.mono (by simp))));have M:=(dM.same H d).but u (b6 O.symm);have N:=u.ob (aD.ob d f) (b6 S.symm);have X:=z▸av;have L:=(aA G T).symm;have G:e≠c:=by obtain⟨_,z⟩:=f;show(aA z T).symm
 have d:e≠a:=by obtain⟨_,⟨_,z⟩,_⟩:=H;show(aA z T).symm
 have W:=u.ob o (b6 L);have L:e∉[a,c]:=by simpa using⟨d,G⟩
 have G:∀(u:Bool)(j:Toks)(d:Hp),isWord "none" q=u->(if isWord "none" q=true then q.drop 1 else q)=j->bS [a] D d->dM cc d a C j->
  ∃f T,d c=some (HO.ins (cc "Column") f T)/\T.length<1000/\rq cc [V.ref a,V.ref c] (upd d c (HO.ins (cc "Column") f (cA (Str.ofString "optional") (.bl u) T))) (λ_ t=>tN cc Q E a c t) E:=by
  intro u j d U T f m;have t:gI p=((eW u j).bind λz=> .ok (RawKind.ref v w u z.1,z.2)).bind f7:=by rw[<- T,<- U];show r
  obtain⟨z,T⟩:=f.ob N s;show⟨z,_,T,by simp[iB],?_⟩;rw[Jw];generalize o:upd d c _=T;have H:bS [c] d T:=o▸bS.upd;have S:r4 cc T c (-1000000) 1000000 .non u "refuse" false:=o▸⟨z,av⟩;have p:bS [a,c] D T:=(f.mono (by simp)).trans (H.mono (by simp));have xg:dM cc T a C j:=m.but H (b6 R);have o:=A.trans (p.mono n);show⟨a,c,C,j,_,_,_,u,false,rfl,xg,S,λb=>(h _ ?_ T o).mono n,λg l=>(h g ?_ T o).mono n,λs U H O z Z R=>tail (.ref v w u s) U H (x++[.ref e]) ?_ (o.trans (z.mono n)) Z R (z _ _ J (p _ _ J X)) (λxh N=>⟨e,y,Y,rfl,N.ob (z.ob (p.ob W L) L) L⟩)⟩;rw[t];unfold eW;rw[(jD b).1,(jD b).1,Wn (by simp),Wn (by simp)];show vg b;rw[t,l];rfl;rw[t,O];rfl
 show dM.m M (by decide) (acc "none" ⟨110,111,_,rfl,rfl⟩ M (λb=>(h _ ?_ D A).mono i) (λT d f m=>G true _ d T (Wt T) f m) (λb T d f m=>G false _ d T (Wn (by rw[T];simp)) f m));rw[r];change((eW (isWord "none" q) (if isWord "none" q=true then q.drop 1 else q)).bind _).bind f7=_;unfold eW;simp only[(jD b).1,Z0,YN];show vg b
inductive Il(cc:aC->ai)(b:ah V)(H:Hp)(Q:VK)(E:XK):Prop
 |mk (a x ts) (_:b=[.ref a]) (_:dM cc H a x ts) (_:(isSign 125 ts=false->E (.int 5 0) (some (here ts)) H)) (_:(isSign 125 ts=true->Q .non H)):Il cc b H Q E
theorem mK(q:En P w K B base CT cc I):fc P w K B base CT "refuse_fifth_column" 4 ["reader"] (Il cc):=by
 show cg q q.fs.mH ["reader","place"] λf b A d s H a Q E z h c T=> ?_;obtain⟨d,x,a,rfl,b,f,k⟩:=h
 show⟨_,(aE (aP 1 c.nd (dY T.bE (iz q) z aM (pw 0)))
  (au (bz (aQ fK (fL KQ (aW T.bE T.eE (pw 0)) (ek (pw 1)) (ek (ef gZ (pw 1) aO))) cz (a_ _))
  (au (fh T.fx (z.mono (by decide)) rfl rfl T.tf bQ (aj (bA rfl T.jV) (aj (pw 1) ao))))
  aN))),?_⟩
 left;right;obtain⟨p,q,T,_⟩:=id b;walk_at "u";show dM.m b (by decide) (ahead b λz c=>⟨_,q,_,rfl,_,rfl,_,rfl,x,rfl,T,?_⟩);have T:=c 125 rfl
 have c:(DR x (some ((here a:Nat):Int)) (some (((here a:Nat):Int)+1))=Str.ofString "}")↔(tl x)[here a]? =some 125:=by
  generalize here a=q at z
  have d:tl (DR x (some ((q:Nat):Int)) (some (((q:Nat):Int)+1)))=((tl x).drop q).take 1:=by
   change((x.cps.toList.drop _).take _)=_;rw[show((q:Int)+1)=((q+1:Nat):Int) by lia,HT.gy,HT.gy,Yo z];by_cases b:q<x.length;rw[Yo (by lia)];congr 1
   lia
   have z:=eS x;have:(tl x).drop q=[]:=Xk (by lia);have z:x.cps.toList.drop q=[]:=this;rw[z];simp
  have e:DR x (some ((q:Nat):Int)) (some (((q:Nat):Int)+1))=Str.ofString "}"↔((tl x).drop q).take 1=[125]:=by rw[<- d];show⟨λz=>by rw[z];rfl,λz=>q4 z⟩
  rw[e];cases b:(tl x)[q]? with
  |none=>rw[Xk (Yj.mp b)];simp
  |some q=>rw[PM.gH b];simp
 by_cases h:(tl x)[here a]? =some 125;rw[WK h]at T;show .inl ⟨c.mpr h,k T⟩;rw[WC h]at T;show .inr ⟨λz=>h (c.mp z),_,rfl,f T⟩
def strOf(w:ah Nat):Str:=⟨w.toArray⟩
theorem qo w:tl (strOf w)=w:=rfl
theorem vh{w:ah Nat}(h:tl y=w):y=strOf w:=q4 h
abbrev sW:=ah (RawColumn×ai)
def fN:RawKind->Bool
 | .ref _ _ _ _=>true
 |_=>false
def kvsOf(L:sW):ah (Key×V):=L.map λz=>(Sum.inr (strOf z.1.name),V.ref z.2)
inductive OL(cc:aC->ai)(H:Hp)(z:RawColumn×ai)(v:V):Prop
 |mk (b y p n aw) (_:v= .ref b) (_:z.1.kind= .ref p (tl y) n aw) (_:Ik cc H b z.2 y p):OL cc H z v
def qp(cc:aC->ai)(H:Hp)(L:sW)(a:ah V):Prop:=Paired (OL cc H) (L.filter λz=>fN z.1.kind) a
structure nB(cc:aC->ai)(H0 H:Hp)(L:sW):Prop where
 at_:∀z∈L,jY cc H z.2 z.1.kind z.1.unique
 new:∀z∈L,H0 z.2=none
 nd:(L.map (·.2)).Nodup
inductive AA(cc:aC->ai)(e:ah V)(H:Hp)(Q:VK)(E:XK):Prop
 |mk (a m x ts ms) (_:e=[.ref a,.ref m]) (_:dM cc H a x ts) (_:H m=some (.lst ms)) (_:ms.length<900) (_:(∀f,((wantSign 123 ts).bind λr=>readColumns 4 [] r)= .error f->cQ E [a,m] H f)) (_:(∀L r d c b,((wantSign 123 ts).bind λr=>readColumns 4 [] r)= .ok (L.map (·.1),r)->H d=none->bS [a,m] H b->dM cc b a x r->b d=some (.dK (kvsOf L))->nB cc H b L->b m=some (.lst (ms++c))->c.length<=L.length->L.length<=4->qp cc b L c->Q (.ref d) b)):AA cc e H Q E
theorem Cd(h:dM cc H a x d)(c:Ik cc H b e y p):b≠a:=by obtain⟨_,⟨b,a⟩,_⟩:=h;obtain⟨b,e⟩:=c;show bF e a (by simp)
theorem n_(h:dM cc H a x e)(b:H d=some (.dK c)):d≠a:=by obtain⟨_,⟨d,a⟩,_⟩:=h;show bF b a (by simp)
theorem LJ{a m:ai}(h:dM cc H a x d)(b:H m=some (.lst c)):m≠a:=by obtain⟨_,⟨m,a⟩,_⟩:=h;show bF b a (by simp)
theorem ru{m c C:ai}{fs:ah (Str×V)}(h:Ob H c C fs)(a:H m=some (.lst e)):c≠m:=by obtain⟨c,e⟩:=h;show bF e a (by simp)
theorem kG{fs:ah (Str×V)}(h:Ob H c C fs)(a:H d=some (.dK e)):c≠d:=by obtain⟨c,e⟩:=h;show bF e a (by simp)
theorem nB.but(h:nB cc c H L)(d:bS l H b)(n:∀z∈L,z.2∉l):nB cc c b L:=⟨λz a=>d.ob (h.at_ z a) (n z a),h.new,h.nd⟩
theorem qp.but(h:qp cc H L d)(b:bS l H a)(n:∀e c y p,Ik cc H e c y p->e∉l):qp cc a L d:=by
 unfold qp at*;generalize(L.filter λz=>fN z.1.kind)=a at h|-
 induction h with
 |nil=>show .nil
 |cons r t d=>obtain⟨e,y,p,f,a,c,H,h⟩:=r;show .cons ⟨e,y,p,f,a,c,H,b.ob h (n _ _ _ _ h)⟩ d
theorem nC(r:R x y)(h:Paired R xs q):Paired R (xs++[x]) (q++[y]):=by
 induction h with
 |nil=>show .cons r .nil
 |cons q _ h=>show .cons q h
structure CI(cc:aC->ai)(H:Hp)(a m d:ai)(x:Str)(ms:ah V)(L:sW)(r:Toks)(UD:ah V)(H' :Hp):Prop where
 fr:bS [a,m] H H'
 dn:H d=none
 rd:dM cc H' a x r
 dd:H' d=some (.dK (kvsOf L))
 ok:nB cc H H' L
 mm:H' m=some (.lst (ms++UD))
 ml:UD.length<=L.length
 OO:qp cc H' L UD
section
variable{H e f:Hp}{a m d:ai}{x:Str}{c b:ah V}{L:sW}{r g:Toks}
theorem CI.move(h:CI cc H a m d x c L r b e)(i:bS [a] e f)(k :dM cc f a x g):CI cc H a m d x c L g b f:=
 ⟨h.fr.trans (i.mono (by simp)),h.dn,k,i _ _ (b6 (n_ h.rd h.dd)) h.dd,h.ok.but i λz j=>by simpa using(qn h.rd (h.ok.at_ z j)).symm,i _ _ (b6 (LJ h.rd h.mm)) h.mm,h.ml,
   h.OO.but i λz k y p j=>by simpa using Cd h.rd j⟩
theorem Ej w:(d7 (kvsOf L) (Sum.inr (strOf w))).isSome=(L.map (·.1)).any λc=>c.name==w:=by rw[<- jR];unfold kvsOf;rw[Zq,Zq];congr 1;funext z;change decide ((Sum.inr (strOf z.1.name):Key)=Sum.inr (strOf w))=(z.1.name==w);rw[Xg,XG,XD];constructor;intro e;have:=abW e;have:=XE tl this;show this;intro e;rw[e]
theorem CI.add{w:ah Nat}(h:CI cc H a m d x c L r b e)(s:e i=none)(q:bS [a,m] e j)(xA :dM cc j a x R)(F:jY cc j i o u)(xg:j m=some (.lst J))
 (I:GN cc j i o (c++b) J) (xh:(d7 (kvsOf L) (Sum.inr (strOf w))).isSome=false):
 j d=some (.dK (kvsOf L))/\∃n,CI cc H a m d x c (L++[({name:=w,kind:=o,unique:=u},i)]) R n (upd j d (.dK (fV (kvsOf L) (Sum.inr (strOf w)) (.ref i)))):=by
 have N:=n_ h.rd h.dd;have O:=bF h.dd h.mm (by simp);have p:=q _ _ (R5 ⟨N,O⟩) h.dd;have k:bS [d] j (upd j d (.dK (fV (kvsOf L) (Sum.inr (strOf w)) (.ref i)))):=bS.upd;have xj:fV (kvsOf L) (Sum.inr (strOf w)) (.ref i)=kvsOf (L++[({name:=w,kind:=o,unique:=u},i)]):=by rw[jS _ (by simpa using xh)];unfold kvsOf;rw[WZ];rfl
 have Q:=h.ok.but q λz f=>by have y:=(qn h.rd (h.ok.at_ z f)).symm;have A:=ru (h.ok.at_ z f) h.mm;simpa using⟨y,A⟩
 have xu:=h.OO.but q λg i B t l=>by have y:=Cd h.rd l;have A:=ru l h.mm;simpa using⟨y,A⟩
 have S:H i=none:=by
  cases xx:H i with
  |none=>rfl
  |some P=>have W:i≠a:=(by rintro rfl;obtain⟨_,⟨_,z⟩,_⟩:=h.rd;rw[s]at z;cases z);have Y:i≠m:=(by rintro rfl;have z:=h.mm;rw[s]at z;cases z);have:=h.fr i P (R5 ⟨W,Y⟩) xx;rw[s]at this;cases this
 have X:i∉L.map (·.2):=λf=>by obtain⟨z,xr,rfl⟩:=Wy.mp f;obtain⟨_,g⟩:=h.ok.at_ z xr;rw[s]at g;cases g
 show⟨p,?_⟩;generalize V:upd j d (.dK (fV (kvsOf L) (Sum.inr (strOf w)) (.ref i)))=C at k|-;have Z:=k.ob F (b6 (kG F p))
 have E:∀n,J =c++n->n.length<=L.length+1->qp cc C (L++[({name:=w,kind:=o,unique:=u},i)]) n->CI cc H a m d x c (L++[({name:=w,kind:=o,unique:=u},i)]) R n C:=by
  intro n v T U;show⟨λxC P M g=> ?_,h.dn,xA.but k (b6 N.symm),by rw[<- V,av,xj],⟨λz f=> ?_,λz f=> ?_,?_⟩,?_,by simpa using T,U⟩;show k _ _ (b6 (aA g h.dn)) (q _ _ M (h.fr _ _ M g));rcases W0.mp f with f|f
  show k.ob (Q.at_ z f) (b6 (kG (Q.at_ z f) p));simp at f;subst f;show Z;rcases W0.mp f with f|f
  show h.ok.new z f;simp at f;subst f;show S;rw[WZ];show nY h.ok.nd X;rw[<- v];show k _ _ (b6 O.symm) xg
 have G:=xu.but k λg i B t l=>by simpa using kG l p
 cases o with
 |number lo xE=>show⟨b,E b I (by have:=h.ml;lia) ?_⟩;unfold qp at*;rw[XW];simpa[fN]using G
 |ref t xB K D=>obtain⟨g,B,xq,v,l⟩:=I;show⟨b++[.ref g],E _ (by rw[v,Yc]) (by have:=h.ml;simp;lia) ?_⟩;unfold qp at*;rw[XW];show nC (x:=({name:=w,kind:=RawKind.ref t xB K D,unique:=u},i)) ⟨g,B,t,K,D,rfl,by rw[xq],k.ob l (b6 (kG l p))⟩ G
end
theorem lq(h:isSign 125 r=false):readColumns (n+1) l r=(readName r).bind λw=>if l.any (λc=>c.name==w.1.2)then .error (6,w.1.1)else(gI w.2).bind λz=>readColumns n (l++[{name:=w.1.2,kind:=z.1.1,unique:=z.1.2}]) z.2:=by
 rw[readColumns,h,Wn (by simp)];congr 1;funext w;split;rfl;unfold gI;cases c:wantSign 58 w.2 with
 |error f=>rfl
 |ok q=>
  change(readKind q).bind _=((readKind q).bind f7).bind _;cases c:readKind q with
  |error f=>rfl
  |ok k=>change(wantSign 59 _).bind _=(f7 k).bind _;unfold f7;cases wantSign 59 (if isWord "unique" k.2=true then k.2.drop 1 else k.2)<;>rfl
inductive Im(cc:aC->ai)(H:Hp)(a m d:ai)(x:Str)(e:Toks)(c:ah V)(n:Nat)(f:L2.St)(b :Hp):Prop
 |mk (L:sW) (r:Toks) (g:ah V) (h:az V) (_:n=4-L.length) (_:L.length<4) (_:f=[some (.ref a),some (.ref m),some (.ref d),h]) (_:CI cc H a m d x c L r g b) (_:isSign 125 r=false) (_:((wantSign 123 e).bind λr=>readColumns 4 [] r)=readColumns (4-L.length) (L.map (·.1)) r):Im cc H a m d x e c n f b
theorem vj(b:En P w K B base CT cc I):fc P w K B base CT "read_columns" 11 ["reader","mentions"] (AA cc):=by
 show cg b b.fs.ud ["reader","mentions","columns","name"] λe o A v s H n Q E c h y T=> ?_;have n:=d8 c;obtain⟨a,m,x,g,q,rfl,u,o,A,v,k⟩:=h
 show⟨_,(aE (aP 2 y.nd qb)
  (aE (bP (di T.bE (gp b) c bQ (pw 0) (aj cz ao)))
  (aE (bz (dg (di T.bE (b9 b) c bQ (pw 0) (aj cz ao)))
  (au (aJ (pw 2)))
  aN)
  (au (jQ WT (dg kX)
  (aE (aP 3 y.nd (di T.bE (iA b) c bQ (pw 0) (aj (pw 2) ao)))
  (aE (iT n (pw 2) (pw 3) (aR (xm b) c bQ (aj (pw 0) (aj (pw 1) ao))) rfl)
  (aE (bz (aQ cM (bw nX rfl T.cO Xy (aj (pw 2) ao)) (bA rfl T.g8) (a_ _))
  (au (bP (aR (mK b) c bQ (aj (pw 0) ao))))
  aN)
  (au (bz (dg (di T.bE (b9 b) c bQ (pw 0) (aj cz ao)))
  (au (aJ (pw 2)))
  aN)))))))))),?_⟩
 left;intro d t;have T:aD H (upd H d (.dK [])):=λb y c=>by rw[aF (aA c t)];show c
 have n:upd H d (HO.dK []) d=some (.dK []):=av;generalize upd H d (HO.dK [])=l at T n|-;have f:=dM.same u T;have y:CI cc H a m d x q [] g [] l:=⟨aD.but T _,t,f,n,⟨(λ_ h=>by cases h),(λ_ h=>by cases h),YQ⟩,by rw[XJ];show T _ _ o,Wu _,.nil⟩;have j:∀e,((wantSign 123 g).bind λr=>readColumns 4 [] r)= .error e->∀T,bS [a,m] H T->cQ E [a,m] T e:=λe c T b n o =>v e c n (b.trans o);have p:∀b∈[a],b∈[a,m]:=by simp
 show dM.m f (by decide) (LG "{" 123 rfl (by decide) f (λi=>(j _ ?_ l y.fr).mono p) (λi A o c=> ?_));unfold wantSign;rw[i];rfl;have f:((wantSign 123 g).bind λr=>readColumns 4 [] r)=readColumns 4 [] (g.drop 1):=by unfold wantSign;rw[i];rfl
 have T:=y.move o c;have C:∀{s y r},jv r=true->readColumns (s+1) y r= .error (faultAt r):=by intro s y r b;rw[lq ((jD b).2 _)];unfold jv at b;split at b;rfl;cases b
 show dM.m c (by decide) (Sg "}" 125 rfl (by decide) c (λb=>(j _ (by rw[f];show C b) A T.fr).mono p) (λo y v u=> .inr ⟨rfl,?_⟩) (λb o y v u=> .inl ⟨rfl,?_⟩));have c:=T.move v u;show k [] _ d [] y (by rw[f,readColumns,o];rfl) t c.fr c.rd c.dd c.ok c.mm (Wu _) (by simp) c.OO;have c:=T.move v u;show⟨Im cc H a m d x g q,⟨4,[],_,[],none,rfl,by decide,rfl,c,o,f⟩,?_⟩;rintro s c y ⟨L,r,U,A,rfl,v,rfl,T,o,f⟩;left;obtain⟨c,D⟩:∃c,4-L.length=c +1:=⟨3-L.length,by lia⟩;rw[D,lq o]at f;show⟨λz n =>∃o,o <4-L.length/\Im cc H a m d x g q o z n,λ_ _ h=>h,dM.m T.rd (by decide) ⟨a,d,kvsOf L,x,r,rfl,T.rd,T.dd,λe v=>(j e (by rw[f,v];rfl) y T.fr).mono p,λs w F G u A=> ?_⟩⟩;have n:=vh A;subst n;rw[u]at f;have f:((wantSign 123 g).bind λr=>readColumns 4 [] r)=if(L.map (·.1)).any (λh=>h.name==w)then .error (6,s)else(gI F).bind λz=>readColumns c (L.map (·.1)++[{name:=w,kind:=z.1.1,unique:=z.1.2}]) z.2:=f
 rw[Ej];show⟨λu=>(j _ (by rw[f,Wt u]) y T.fr).mono p,λu G s A => ?_⟩;rw[Wn (by rw[u];simp)]at f;have n:=T.move s A;show⟨a,m,x,F,q++U,rfl,n.rd,n.mm,by have:=n.ml;simp;lia,λe v=>j e (by rw[f,v];rfl) G n.fr,λy A s h X J M N T W O R S=> ?_⟩;obtain⟨v,F,e⟩:=n.add N T W O R S (w:=w) (by rw[Ej];show u);show⟨_,m8.k (k:=Sum.inr (strOf w)) v (by unfold kvsOf;rw[Wl,Wx];lia),?_⟩;generalize upd J d _=T at e|-;show⟨_,e.dd,?_⟩;rw[M]at f;have n:((wantSign 123 g).bind λr=>readColumns 4 [] r)=readColumns c ((L++[(({name:=w,kind:=y,unique:=A}:RawColumn),h)]).map (·.1)) s:=by rw[f,WZ];rfl
 have r:(L++[(({name:=w,kind:=y,unique:=A}:RawColumn),h)]).length=L.length+1:=by simp
 generalize L++[(({name:=w,kind:=y,unique:=A}:RawColumn),h)]=f at e n r|-;have u:4-f.length=c :=by rw[r];show XE Nat.pred D
 have A:(c =0->isSign 125 s=true)->∃v y,T a=some (HO.ins (cc "Reader") v y)/\List.lookup (Str.ofString "accepts") y=none/\jI cc [V.ref a,V.str (Str.ofString "}")] T
  (λy l=>y=V.bl false/\(∃o,o <4-L.length/\Im cc H a m d x g q o [some (V.ref a),some (V.ref m),some (V.ref d),some (.str (strOf w))] l)∨y=V.bl true/\Q (V.ref d) l) E:=by
  intro g;show dM.m e.rd (by decide) (Sg "}" 125 rfl (by decide) e.rd (λb=>(j _ ?_ T e.fr).mono p) (λh y v o=> .inr ⟨rfl,?_⟩) (λb h y v o=> .inl ⟨rfl,?_⟩));cases c with
  |zero=>have:=g rfl;rw[(jD b).2]at this;cases this
  |succ l=>rw[n];show C b
  have b:=e.move v o;show k f _ d F y ?_ t b.fr b.rd b.dd b.ok b.mm b.ml (by lia) b.OO;rw[n];cases c <;>(rw[readColumns,h];rfl);have b:=e.move v o;have:c≠0:=λz=>by have:=g z;rw[h]at this;cases this
  show⟨c,by lia,f,s,F,_,u.symm,by lia,rfl,b,h,?_⟩;rw[n,u]
 have y:(kvsOf f).length=L.length+1:=by unfold kvsOf;rw[Wl,r]
 rw[y];by_cases y:L.length+1=4;rw[Wt (by lia)];have o:c =0:=by rw[<- u,r,y]
 show⟨a,x,s,rfl,e.rd,λi=> ?_,λi=>A λ_=>i⟩;show j (5,here s) ?_ T e.fr T (bS.refl _ _);rw[n,o,readColumns,i];rfl;rw[Wn (by lia)];show A λz=>by lia
abbrev LK:=ah (RawTable×ai×sW)
def iP(TL:LK):ah (Key×V):=TL.map λz=>(Sum.inr (strOf z.1.name),V.ref z.2.1)
def eB(TL:LK):sW:=TL.flatMap (·.2.2)
structure TI(cc:aC->ai)(H:Hp)(a m D:ai)(x:Str)(TL:LK)(r:Toks)(ms:ah V)(H' :Hp):Prop where
 fr:bS [a,m] H H'
 dn:H D=none
 rd:dM cc H' a x r
 dd:H' D=some (.dK (iP TL))
 tb:∀z∈TL,H' z.2.1=some (.dK (kvsOf z.2.2))/\z.1.columns=z.2.2.map (·.1)/\z.2.1≠D/\z.2.2.length<=4
 ok:nB cc H H' (eB TL)
 mm:H' m=some (.lst ms)
 ml:ms.length<=(eB TL).length
 al:(eB TL).length<=4*TL.length
 OO:qp cc H' (eB TL) ms
theorem eH(h:Paired R xs a)(k:Paired R q b):Paired R (xs++q) (a++b):=by
 induction h with
 |nil=>show k
 |cons q _ h=>show .cons q h
section
variable{H c e:Hp}{a m D:ai}{x:Str}{d:ah V}{b:LK}{r f:Toks}
theorem TI.move(h:TI cc H a m D x b r d c)(g:bS [a] c e)(j :dM cc e a x f):TI cc H a m D x b f d e:=
 ⟨h.fr.trans (g.mono (by simp)),h.dn,j,g _ _ (b6 (n_ h.rd h.dd)) h.dd,λz i=>⟨g _ _ (b6 (n_ h.rd (h.tb z i).1)) (h.tb z i).1,(h.tb z i).2⟩,h.ok.but g λz i=>by simpa using(qn h.rd (h.ok.at_ z i)).symm,g _ _ (b6 (LJ h.rd h.mm)) h.mm,h.ml,h.al,
   h.OO.but g λz j y p i=>by simpa using Cd h.rd i⟩
theorem AB w:(d7 (iP b) (Sum.inr (strOf w))).isSome=(b.map (·.1)).any λc=>c.name==w:=by rw[<- jR];unfold iP;rw[Zq,Zq];congr 1;funext z;change decide ((Sum.inr (strOf z.1.name):Key)=Sum.inr (strOf w))=(z.1.name==w);rw[Xg,XG,XD];constructor;intro e;have:=abW e;have:=XE tl this;show this;intro e;rw[e]
theorem NK(fr:bS l H c)(a:c g=none)(d:∀b∈l,c b≠none):H g=none:=by
 cases q:H g with
 |none=>rfl
 |some o=>have:=fr g o (λz=>d g z a) q;rw[a]at this;cases this
theorem TI.here(h:TI cc H a m D x b r d c):∀e∈[a,m],c e≠none:=by
 intro e f;simp at f;rcases f with rfl|rfl
 obtain⟨_,⟨_,e⟩,_⟩:=h.rd;rw[e];simp;rw[h.mm];simp
theorem TI.add{w:ah Nat}(h:TI cc H a m D x b r d c)(p:c i=none)(k:bS [a,m] c g)(K :dM cc g a x u)(C:g i=some (.dK (kvsOf L)))(n:nB cc c g L)
 (E:g m=some (.lst (d++j))) (v:j.length<=L.length) (B:L.length<=4) (I:qp cc g L j) (q:(d7 (iP b) (Sum.inr (strOf w))).isSome=false):
 g D=some (.dK (iP b))/\TI cc H a m D x (b++[({name:=w,columns:=L.map (·.1)},i,L)]) u (d++j) (upd g D (.dK (fV (iP b) (Sum.inr (strOf w)) (.ref i)))):=by
 have u:=n_ h.rd h.dd;have v:=bF h.dd h.mm (by simp);have s:=k _ _ (R5 ⟨u,v⟩) h.dd;have f:bS [D] g (upd g D (.dK (fV (iP b) (Sum.inr (strOf w)) (.ref i)))):=bS.upd;have F:fV (iP b) (Sum.inr (strOf w)) (.ref i)=iP (b++[({name:=w,columns:=L.map (·.1)},i,L)]):=by rw[jS _ (by simpa using q)];unfold iP;rw[WZ];rfl
 have l:eB (b++[({name:=w,columns:=L.map (·.1)},i,L)])=eB b++L:=by unfold eB;rw[YB];simp
 have t:i≠D:=λz=>by have:=h.dd;rw[<- z,p]at this;cases this
 have J:=h.ok.but k λz e=>by have p:=(qn h.rd (h.ok.at_ z e)).symm;have q:=ru (h.ok.at_ z e) h.mm;simpa using⟨p,q⟩
 have G:=h.OO.but k λj A M y o=>by have p:=Cd h.rd o;have q:=ru o h.mm;simpa using⟨p,q⟩
 show⟨s,?_⟩;generalize p:upd g D (.dK (fV (iP b) (Sum.inr (strOf w)) (.ref i)))=q at f|-;show⟨λq N i j=>f _ _ (b6 (aA j h.dn)) (k _ _ i (h.fr _ _ i j)),h.dn,K.but f (b6 u.symm),by rw[<- p,av,F],λz e=> ?_,?_,f _ _ (b6 v.symm) E,?_,?_,?_⟩;rcases W0.mp e with e|e
 obtain⟨i,p,q⟩:=h.tb z e;have u:=n_ h.rd i;have v:=bF i h.mm (by simp);show⟨f _ _ (b6 q.1) (k _ _ (R5 ⟨u,v⟩) i),p,q⟩;simp at e;subst e;show⟨f _ _ (b6 t) C,rfl,t,B⟩;rw[l];show⟨λz e=> ?_,λz e=> ?_,?_⟩
 have:jY cc g z.2 z.1.kind z.1.unique:=by
  rcases W0.mp e with e|e
  show J.at_ z e;show n.at_ z e
 show f.ob this (b6 (kG this s));rcases W0.mp e with e|e
 show h.ok.new z e;show NK h.fr (n.new z e) h.here;rw[WZ];show Yx.mpr ⟨h.ok.nd,n.nd,λy i u q j=> ?_⟩;obtain⟨z,e,rfl⟩:=Wy.mp i;obtain⟨p,g,rfl⟩:=Wy.mp q;obtain⟨_,q⟩:=h.ok.at_ z e;have i:=n.new p g;rw[<- j,q]at i;cases i;rw[l];have:=h.ml;simp
 lia
 rw[l];have:=h.al;simp
 lia
 rw[l];unfold qp at*;rw[XW];have i:=eH G I;rw[<- XW]at i|-;show qp.but (L:=eB b++L) i f λj A M y o=>by simpa using kG o s
end
inductive Ek(cc:aC->ai)(d:ah V)(H:Hp)(Q:VK)(E:XK):Prop
 |mk (a m x ts) (_:d=[.ref a,.ref m]) (_:dM cc H a x ts) (_:H m=some (.lst [])) (_:(∀f,readTables 4 [] ts= .error f->cQ E [a,m] H f)) (_:(∀b r D e c,readTables 4 [] ts= .ok (b.map (·.1))->TI cc H a m D x b r e c->b.length<=4->Q (.ref D) c)):Ek cc d H Q E
inductive LM(cc:aC->ai)(H:Hp)(b m D:ai)(x:Str)(d:Toks)(n:Nat)(e:L2.St)(c :Hp):Prop
 |mk (a:LK) (r:Toks) (f:ah V) (tok g:az V) (_:n=4-a.length) (_:a.length<=4) (_:e=[some (.ref b),some (.ref m),some (.ref D),tok,g]) (_:TI cc H b m D x a r f c) (_:readTables 4 [] d=readTables (4-a.length) (a.map (·.1)) r):LM cc H b m D x d n e c
theorem sX(h:isOver r=false)(hw:isWord "table" r=true):readTables (n+1) l r=(readName (r.drop 1)).bind λw=>if l.any (λt=>t.name==w.1.2)then .error (6,w.1.1)else((wantSign 123 w.2).bind λr=>readColumns 4 [] r).bind λc=>readTables n (l++[{name:=w.1.2,columns:=c.1}]) c.2:=by rw[readTables,h,Wn (by simp)];unfold wantWord;rw[hw];change(readName (r.drop 1)).bind _=_;congr 1;funext w;split;rfl;cases wantSign 123 w.2<;>rfl
theorem xo(g:En P w K B base CT cc I):fc P w K B base CT "read_tables" 12 ["reader","mentions"] (Ek cc):=by
 show cg g g.fs.wM ["reader","mentions","tables","token","name"] λf yF yz yN yQ H yR yE xE i h sc T=> ?_;have yd:=d8 i;obtain⟨b,m,x,A,rfl,yb,xY,yh,k⟩:=h
 show⟨_,(aK (aP 2 sc.nd qb)
  (aK (jQ WT (aQ fK (aW T.b8 T.eu (dY T.bE (i9 g) i bQ (pw 0))) (cG rfl T.Am) (a_ _))
  (aE (aP 3 sc.nd (dY T.bE (i_ g) i bQ (pw 0)))
  (aE (bz (aQ fK (aW T.b8 T.cD (pw 3)) cz (a_ _))
  (au (bP (aR (ql g) i bQ (aj (pw 3) ao))))
  aN)
  (aE (bz (aQ cM (bw nX rfl T.cO Xy (aj (pw 2) ao)) (bA rfl T.iY) (a_ _))
  (au (fh T.fx (i.mono (by decide)) rfl rfl T.tf bQ (aj (bA rfl T.jV) (aj (aW T.b8 T.cT (pw 3)) ao))))
  aN)
  (aE (aP 4 sc.nd (di T.bE (iA g) i bQ (pw 0) (aj (pw 2) ao)))
  (au (iT yd (pw 2) (pw 4) (aR (vj g) i bQ (aj (pw 0) (aj (pw 1) ao))) rfl)))))))
  (au (aJ (pw 2))))),?_⟩
 left;intro D Z;have M:aD H (upd H D (.dK [])):=λl yM e=>by rw[aF (aA e Z)];show e
 have Y:upd H D (HO.dK []) D=some (.dK []):=av;generalize upd H D (HO.dK [])=xF at M Y|-;have yk:=dM.same yb M;have yt:TI cc H b m D x [] A [] xF:=⟨aD.but M _,Z,yk,Y,(λ_ h=>by cases h),⟨(λ_ h=>by cases h),(λ_ h=>by cases h),YQ⟩,M _ _ xY,Wu _,Wu _,.nil⟩;have q:∀f,readTables 4 [] A= .error f->∀Q,bS [b,m] H Q->cQ xE [b,m] Q f:=λf e Q l O xK =>yh f e O (l.trans xK);have U:∀l∈[b],l∈[b,m]:=by simp
 left;show⟨LM cc H b m D x A,⟨4,[],_,[],none,none,rfl,by decide,rfl,yt,rfl⟩,?_⟩;rintro yK yS xG ⟨TL,r,xu,tok,yL,rfl,xS,rfl,z,a⟩;left;show dM.m z.rd (by decide) ⟨b,x,r,rfl,z.rd,λW xq e=>(q _ ?_ xG z.fr).mono U,λW tok yf C l xH J xB yu=>⟨l,rfl,_,yu,_,rfl,rfl,?_⟩⟩;subst e;rw[a];cases 4-TL.length<;>rfl;have L :=z.move (aD.but xB [b]) (dM.same z.rd xB);obtain⟨yO,n,yH⟩:=J.ts;by_cases o:yf= "end";show .inl ⟨by rw[o],?_⟩
 have d:isOver r=true:=by
  rw[n];rcases J.held.is with⟨h,_⟩|⟨h,_⟩|⟨h,_⟩|⟨_,h,_⟩
  rw[o]at h;simp at h;rw[o]at h;simp at h;rw[o]at h;simp at h;rw[h];rfl
 left;show k TL r D xu xH ?_ L xS;rw[a];cases 4-TL.length<;>(rw[readTables,d];rfl);show .inr ⟨by simpa[bN]using o,λyx O =>∃xr,xr <4-TL.length/\LM cc H b m D x A xr yx O,λ_ _ h=>h,?_⟩
 have d:isOver r=false:=by
  rw[n];rcases J.held.is with⟨_,h,_⟩|⟨_,h,_⟩|⟨_,t,h,_⟩|⟨h,_⟩
  rw[h];rfl;rw[h];rfl;rw[h];rfl;show absurd h o
 have x9:here r=W:=by rw[n];rfl
 show dM.m L.rd (by decide) ⟨b,x,r,rfl,L.rd,λv xq e=> ?_,λv xC yg N R j V yq yl X=>⟨R,rfl,_,X,_,rfl,rfl,?_⟩⟩;have xg:=Ed J;rw[e]at xg;cases xg;right;obtain⟨yP,E,yI⟩:=V.ts;have ya:v=W:=by rw[n]at E;cases E;rfl
 subst ya;have yc:xC=tok:=by rw[n]at E;cases E;rfl
 subst yc;walk_at "u";have x8:xC≠.over:=λC=>by rw[n,C]at d;cases d
 have c :=L.move yq (yl x8);have p:isWord "table" r=decide (tl N=tl (Str.ofString "table")):=by rw[<- ve (by rw[cN];decide)];show u_ V ⟨116,_,rfl,rfl⟩
 by_cases G:N=Str.ofString "table";rw[WK (by rw[G])]at p;show .inl ⟨by rw[G],_,c.dd,?_⟩;have xh:(iP TL).length=TL.length:=by unfold iP;rw[Wl]
 rw[xh];by_cases xQ:TL.length=4;rw[Wt (by lia)];show⟨R,rfl,_,X,_,rfl,v,rfl,q (5,v) ?_ j c.fr j (bS.refl _ _)⟩;rw[a,xQ,readTables,d,p,<- x9];rfl;rw[Wn (by lia)];obtain⟨u,xj⟩:∃u,4-TL.length=u +1:=⟨3-TL.length,by lia⟩;rw[xj,sX d p]at a;show dM.m c.rd (by decide) ⟨b,D,iP TL,x,_,rfl,c.rd,c.dd,λf S=>(q f (by rw[a,S];rfl) j c.fr).mono U,λyj w xA y xN ye=> ?_⟩;have xP:=vh ye;subst xP;rw[xN]at a;have a:readTables 4 [] A=if(TL.map (·.1)).any (λt=>t.name==w)then .error (6,yj)else((wantSign 123 xA).bind λr=>readColumns 4 [] r).bind λt=>readTables u (TL.map (·.1)++[{name:=w,columns:=t.1}]) t.2:=a
 rw[AB];show⟨λF=>(q _ (by rw[a,Wt F]) j c.fr).mono U,λF xJ yr ym => ?_⟩;rw[Wn (by rw[F];simp)]at a;have s:=c.move yr ym;show⟨b,m,x,xA,xu,rfl,s.rd,s.mm,by have:=s.ml;have:=s.al;lia,λf S=>q f (by rw[a,S];rfl) xJ s.fr,λyD yo yG yJ yC xO xV xM yp xW xU xZ xX xT yi=> ?_⟩;have xx:∀C,4-(TL++[C]).length=u :=λC=>by rw[WY];show XE Nat.pred xj
 obtain⟨xR,yw⟩:=s.add xV xM yp xW xU xZ xX xT yi (w:=w) (by rw[AB];show F);show⟨_,m8.k (k:=Sum.inr (strOf w)) xR (by rw[xh,Wx];lia),u,by lia,_,yo,_,_,_,?_,?_,rfl,yw,?_⟩;show(xx _).symm;simp
 lia
 rw[a,xO,WZ,xx];rfl;have x6:¬tl N=tl (Str.ofString "table"):=λh=>G (q4 h);rw[WC x6]at p;show .inr ⟨by simpa using G,R,yg,N,v,rfl,X,?_⟩;have:=q (faultAt r) ?_ j c.fr j (bS.refl _ _);rw[PM.lS V]at this;show this;rw[a];cases 4-TL.length with
 |zero=>rw[readTables,d,p];rfl
 |succ xq=>rw[readTables,d];unfold wantWord;rw[p];rfl
def gi(l:ah RawTable)(k:RawKind):az TextFault:=match k with
 | .ref p w _ _=>if(indexOf l w).isSome then none else some (7,p)
 |_=>none
noncomputable def Jx (l:ah RawTable) (k:RawKind) (u:Bool):ah (Str×V):=match k with
 | .number lo a=>iB lo a .non false "refuse" u
 | .ref _ w n a=>iB (-1000000) 1000000 (.int (((indexOf l w).getD 0:Nat):Int)) n (jw a) u
abbrev AF(cc:aC->ai)(H:Hp)(l:ah RawTable)(z:RawColumn×ai):Prop:=Ob H z.2 (cc "Column") (Jx l z.1.kind z.1.unique)
inductive El(K:ay)(cc:aC->ai)(b:ah V)(H:Hp)(Q:VK)(E:XK):Prop
 |mk (m nl ms L l H0) (_:b=[.ref m,.ref nl]) (_:H m=some (.lst ms)) (_:H nl=some (.lst (l.map λt=> .str (strOf t.name)))) (_:nB cc H0 H L) (_:qp cc H L ms) (_:(∀f,L.findSome? (λz=>gi l z.1.kind)=some f->cQ E (L.map (·.2)) H f)) (_:(L.findSome? (λz=>gi l z.1.kind)=none->∀a,bS (L.map (·.2)) H a->(∀z∈L,AF cc a l z)->Q .non a)):El K cc b H Q E
theorem jl{e a:Type}{f:e->az a}{g:e->Bool}(h:∀x,g x=false->f x=none):∀L:ah e,L.findSome? f=(L.filter g).findSome? f
 |[]=>rfl
 |x::L=>by
  cases e:g x with
  |true=>rw[List.filter_cons,Wt e,X4,X4,jl h L]
  |false=>rw[List.filter_cons,Wn (by rw[e];simp),X4,h x e,jl h L]
theorem r5{h a:Type}{f:h->az a}{v:a}:∀(l:ah h)(i:Nat)(z:h),l[i]? =some z->f z=some v->(∀(j:Nat)(y:h),j<i->l[j]? =some y->f y=none)->l.findSome? f=some v
 |[],_,_,h,_,_=>by simp at h
 |x::l,0,z,h,a,_=>by simp at h;subst h;rw[X4,a]
 |x::l,i+1,z,h,a,b=>by rw[X4,b 0 x (by lia) rfl];show r5 l i z (by simpa using h) a λj y c v=>b (j+1) y (by lia) (by simpa using v)
inductive PJ{b c:Type}(R:b->c->Prop)(a:ah b)(i:Nat)(y:c):Prop
 |mk (x) (_:a[i]? =some x) (_:R x y):PJ R a i y
theorem b_:∀{xs}{h}{i}{y},Paired R xs h->h[i]? =some y->PJ R xs i y
 |_,_,_,_,.nil,h=>by simp at h
 |_,_,0,y,.cons (a:=x) q t,h=>by simp at h;subst h;show⟨x,rfl,q⟩
 |_,_,i+1,y,.cons q t,h=>by obtain⟨x,q,y⟩:=b_ (i:=i) t (by simpa using h);show⟨x,by simpa using q,y⟩
theorem aT:∀{xs}{a},Paired R xs a->xs.length=a.length
 |_,_,.nil=>rfl
 |_,_,.cons q t=>by rw[WG,WG,aT t]
theorem Jy{w:ah Nat}(h:indexOf l w=some j):(∃t,l[j]? =some t/\t.name=w)/\∀k t,k<j->l[k]? =some t->t.name≠w:=by unfold indexOf at h;rw[Z6]at h;obtain⟨b,e,a⟩:=h;show⟨⟨l[j],Wr b,by simpa using e⟩,λk t h c=> ?_⟩;have:=a k h;obtain⟨h,e⟩:=Wo.mp c;subst e;simpa using this
theorem LN l y:F9 (.str y) (l.map λt=> .str (strOf t.name))=(indexOf l (tl y)).isSome:=by unfold F9 indexOf;rw[Zq,List.findIdx?_isSome];congr 1;funext t;change(strOf t.name==y)=(t.name==tl y);rw[LC,qo,Xg,XD,XD];show eq_comm
theorem Em{w:ah Nat}(h:indexOf l w=some j):cA (Str.ofString "target") (.int (j:Nat)) (oV (.ref p w n a) u)=Jx l (.ref p w n a) u:=by simp[oV,Jx,iB,cW,bN,h]
theorem ry{b c:Type}{f:b->c}:∀{l:ah b}{x y:b},(l.map f).Nodup->x∈l->y∈l->f x=f y->x=y
 |[],_,_,_,h,_,_=>by cases h
 |a::l,x,y,h,b,d,e=>by
  rw[WM,XF]at h;rcases WB.mp b with rfl|c
  rcases WB.mp d with rfl|b
  rfl;show absurd (Wy.mpr ⟨y,b,e.symm⟩) h.1;rcases WB.mp d with rfl|b
  show absurd (show f _∈l.map f from Wy.mpr ⟨x,c,e⟩) h.1;show ry h.2 c b e
theorem qq{h m:Type}{f:h->m}:∀{l:ah h},(l.map f).Nodup->l.Nodup
 |[],_=>YQ
 |a::l,h=>by rw[WM,XF]at h;show XF.mpr ⟨λm=>h.1 (Xc m),qq h.2⟩
theorem qt{a:Type}{l:ah a}{i j:Nat}{x:a}(h:l.Nodup)(b:l[i]? =some x)(c:l[j]? =some x):i=j:=by obtain⟨j,a⟩:=Wo.mp b;obtain⟨b,j⟩:=Wo.mp c;show(List.getElem_inj h).mp (a.trans j.symm)
inductive Sh(cc:aC->ai)(H:Hp)(m d:ai)(L:sW)(l:ah RawTable)(i:Nat)(e:L2.St)(c :Hp):Prop
 |mk (a b) (_:e=[some (.ref m),some (.ref d),a,b]) (_:bS (L.map (·.2)) H c) (_:(∀(j:Nat) z,(L.filter λz=>fN z.1.kind)[j]? =some z->(j<i->gi l z.1.kind=none/\AF cc c l z)/\(i<=j->jY cc c z.2 z.1.kind z.1.unique))) (_:∀z∈L,fN z.1.kind=false->jY cc c z.2 z.1.kind z.1.unique):Sh cc H m d L l i e c
theorem qu(k:En P w K B base CT cc I):fc P w K B base CT "settle_mentions" 3 ["mentions","names"] (El K cc):=by
 show cg k k.fs.pV ["mentions","names","mention","column"] λf o A t s H n Q E d h sc T=> ?_;obtain⟨m,v,o,L,l,t,rfl,k,n,ok,s,E,J⟩:=h
 show⟨_,(au (cS WT rfl (cC (pv 0)) (bh 2 sc.nd)
  (aE (bz (aQ p8 (aW T.dc T.eV (pw 2)) (pw 1) (by with_unfolding_all rfl))
  (au (fh T.fx (d.mono (by decide)) rfl rfl T.tf bQ (aj (bA rfl T.gB) (aj (aW T.dc T.fj (pw 2)) ao))))
  aN)
  (aE (aP 3 sc.nd (aW T.dc T.eU (pw 2)))
  (au (bX T.bL T.bR (pw 3) (fB W8 F.slot_list_index F.type_list_index Kz (pw 1) (aj (aW T.dc T.eV (pw 2)) ao)) rfl)))))),?_⟩
 left;have t:m∉L.map (·.2):=λh=>by obtain⟨z,a,e⟩:=Wy.mp h;show ru (ok.at_ z a) k e
 have A:v∉L.map (·.2):=λh=>by obtain⟨z,a,e⟩:=Wy.mp h;show ru (ok.at_ z a) n e
 have c:=jl (f:=λz:RawColumn×ai=>gi l z.1.kind) (g:=λz=>fN z.1.kind) (λz h=>by
  cases e:z.1.kind with
  |number=>rfl
  |ref=>have h:fN z.1.kind=false:=h;rw[e]at h;cases h) L
 have D:=aT s;show⟨_,rfl,m,rfl,⟨_,bG.of k⟩,dN (xs:=o) (Sh cc H m v L l) ⟨none,none,rfl,bS.refl _ _,λj z a=>⟨λh=>by lia,λ_=>ok.at_ z (W_.mp (Wq a)).1⟩,λz a _=>ok.at_ z a⟩ ?_ ?_ ?_⟩;rintro q C g o ⟨x,i,rfl,fr,_⟩;show bG.of (fr _ _ t k);rintro q t C g o ⟨x,i,rfl,fr,d,r⟩;right;obtain⟨z,a,e,y,p,H,t,rfl,m,k⟩:=b_ s o;have u:=(W_.mp (Wq a)).1;have t:e∉L.map (·.2):=λh=>by obtain⟨b,T,s⟩:=Wy.mp h;obtain⟨_,o⟩:=k;obtain⟨_,H⟩:=ok.at_ b T;show bF o H (by cases b.1.kind<;>simp[oV,iB]) s.symm
 have o :=fr.ob k t;have s:=bG.of (K:=K) (fr _ _ A n);left;show⟨_,o,_,rfl,_,.inl s,rfl,?_,?_⟩;intro t k;obtain⟨M,_,rfl⟩:=Wy.mp k;rfl;rw[LN];cases n:indexOf l (tl y)with
 |none=>show .inr ⟨rfl,_,o,_,rfl,p,rfl,E (7,p) ?_ g fr⟩;rw[c];show r5 _ q z a ?_ λj A c H =>((d j A H).1 c).1;change gi l z.1.kind=some (7,p);rw[m];change(if(indexOf l (tl y)).isSome=true then none else some (7,p))=_;rw[n];rfl
 |some j=>
  obtain⟨⟨t,k,G⟩,E⟩:=Jy n;obtain⟨A,H⟩:=(d q z a).2 (Wu _);show .inl ⟨rfl,_,o,_,rfl,⟨_,s⟩,_,o,_,rfl,v,_,.str y,j,.str (strOf t.name),rfl,rfl,s,rfl,?_,?_,?_,?_,z.2,rfl,A,_,H,kind_len _ _,?_⟩;rw[X6];intro t k;obtain⟨M,_,rfl⟩:=Wy.mp k;rfl;rw[Ws,k];rfl;change(strOf t.name==y)=true;rw[XD,G];show(vh rfl).symm;intro s t H k;rw[Ws]at k;cases o :l[s]? with
  |none=>rw[o]at k;cases k
  |some t =>rw[o]at k;cases k;change(strOf t.name==y)=false;rw[Xs];intro h;show E s t H o (by rw[<- h];rfl)
  rw[m,Em n,<- m];have o:∀i∈[z.2],i∈L.map (·.2):=by intro i k;simp at k;subst k;show Xc u
  show⟨_,_,rfl,fr.trans (bS.upd.mono o),λs b T=> ?_,λb T k=> ?_⟩;by_cases c:s=q;subst c;rw[a]at T;cases T;show⟨λ_=>⟨?_,A,?_⟩,λh=>by lia⟩;rw[m];change(if(indexOf l (tl y)).isSome=true then none else some (7,p))=_;rw[n];rfl;rw[av];have t:=(W_.mp (Wq T)).1;have o:b.2≠z.2:=λh=>by have e:=ry ok.nd t u h;subst e;show c (qt (qq (ok.nd.sublist (aaC.map _))) T a)
  obtain⟨n,k⟩:=d s b T;have s:b.2∉[z.2]:=by simpa using o
  show⟨λh=>⟨(n (by lia)).1,bS.upd.ob (n (by lia)).2 s⟩,λh=>bS.upd.ob (k (by lia)) s⟩;have o:b.2≠z.2:=λh=>by have e:=ry ok.nd T u h;rw[e,m]at k;cases k
  show bS.upd.ob (r b T k) (b6 o)
 rintro C g ⟨x,i,rfl,fr,d,r⟩;have all:∀z∈L,fN z.1.kind=true->gi l z.1.kind=none/\AF cc g l z:=λz a h=>by obtain⟨j,c⟩:=XZ.mp (W_ (p:=λz:RawColumn×ai=>fN z.1.kind).mpr ⟨a,h⟩);show(d j z c).1 ?_;rw[<- D];show(Wo.mp c).1
 show J ?_ g fr λz a=> ?_;rw[List.findSome?_eq_none_iff];intro z a;cases h:fN z.1.kind with
 |true=>show(all z a h).1
 |false=>
  cases e:z.1.kind with
  |number=>rfl
  |ref=>rw[e]at h;cases h
 cases h:fN z.1.kind with
 |true=>show(all z a h).2
 |false=>
  have:=r z a h;cases e:z.1.kind with
  |number=>rw[e]at this;unfold AF Jx;rw[e];show this
  |ref=>rw[e]at h;cases h
noncomputable def norm (c:Nat):Nat:=if c=13 then 32 else if inner c||VauowBase.signs.contains c||c==32||c==9||c==10||c==35 then c else 63
inductive Io(K:ay)(d:ah V)(H:Hp)(Q:VK)(e:XK):Prop
 |mk (c:ai) (a:ah Nat) (_:d=[.ref c]) (_:bG K H c (a.map λn:Nat=> .int n)) (_:a.length<=4096) (_:(∀n∈a,n<=255)) (_:∀b,aD H b->Q (.str (strOf (a.map norm))) b):Io K d H Q e
theorem NP{x:Str}{h:TG}{p:TS}{D:w5}{a:L2.St}{H:Hp}(c:Nat->L2.St->Hp->Prop)(k:c 0 a H)
 (n:∀i d a H,x.cps[i]? =some d->c i a H->h (.str ⟨#[d]⟩) a H λg e=>p {D with nx:=c (i+1),ct:=c (i+1),bk:=D.nx} g e) (l:∀a H,c x.cps.size a H->D.nx a H):
 ∃W:Nat->Nat->L2.St->Hp->Prop,(∃m,W 0 m a H)/\∀i m a H,W i m a H->
  ((RG x).stop i H/\D.nx a H)∨((RG x).go i H/\∃N:L2.St->Hp->Prop,(∀f b,N f b->∃j,j <m/\W (i+1) j f b)/\∀v b,(RG x).BE i H v b->h v a b λg e=>p {D with nx:=N,ct:=N,bk:=D.nx} g e):=by
 show⟨λi m a H=>m=x.cps.size-i/\i<=x.cps.size/\c i a H,⟨x.cps.size,by simp,Xb _,k⟩,?_⟩;rintro i m a H ⟨rfl,e,p⟩;by_cases e:i<x.cps.size;show .inr ⟨e,c (i+1),λf b g =>⟨_,Ye _ _ e,rfl,e,g⟩,λv b y=> ?_⟩;obtain⟨e,d,b,rfl⟩:=y;subst e;show n i d a _ b p;have e:i=x.cps.size:=by lia
 subst e;show .inl ⟨Wu _,l a H p⟩
def ja(l:ah Nat):ah (Key×V):=l.foldl (λ(acc:ah (Key×V))(c:Nat)=>fV acc (Sum.inl (c:Int)) (.str ⟨#[c]⟩)) [(Sum.inl 13,.str (Str.ofString " "))]
theorem Jz l:(ja l).length<=1+l.length:=by
 unfold ja
 have:∀(l:ah Nat)(k:ah (Key×V)),(l.foldl (λ(acc:ah (Key×V))(c:Nat)=>fV acc (Sum.inl (c:Int)) (.str ⟨#[c]⟩)) k).length<=k.length+l.length:=by
  intro l
  induction l with
  |nil=>intro k;simp
  |cons c l a=>
   intro k;have b:=a (fV k (Sum.inl (c:Int)) (.str ⟨#[c]⟩));have a:=ku k (Sum.inl (c:Int)) (.str ⟨#[c]⟩);rw[YW,WG]
   lia
 show this l _
theorem JA:∀n:Fin 256,(d7 (ja (tl (Str.ofString "abcdefghijklmnopqrstuvwxyz0123456789_" ++Str.ofString "-:;{}" ++Str.ofString " \t\n" ++Str.ofString "#"))) (Sum.inl ((n.val:Nat):Int))).getD (.str (Str.ofString "?"))= .str ⟨#[norm n.val]⟩:=by decide+kernel
theorem JB a:DN [] (a.map λn=>[n])=a:=by
 induction a with
 |nil=>rfl
 |cons n a b=>
  cases a with
  |nil=>rfl
  |cons m a=>change[n]++([]++DN [] ((m::a).map λn=>[n]))=_;rw[b];rfl
theorem Ce(l:En P w K B base CT cc I):fc P w K B base CT "plain_text" 1 ["numbers"] (Io K):=by
 show cg l l.fs.Bj ["numbers","signs","sign","number"] λf d A x s H D Q E p h sc T=> ?_;have l:=d8 p;obtain⟨g,a,rfl,m,p,q,k⟩:=h
 show⟨_,(aE (aP 1 sc.nd (Np (DG (bA rfl T.fC) cz HN) rfl rfl (by simp) (by decide)))
  (aE (cS WT rfl (PV (ef pC (ef pC (ef pC (cG rfl T.g6) (cG rfl T.qg)) (cG rfl T.nj)) (cG rfl T.nk))) (bh 2 sc.nd)
  (au (iT l (pv 1) (bw Ko rfl T.H7 boot_ord (aj (pv 2) ao)) (pv 2) rfl)))
  (au (aJ (Nv cz (ju (own:=[("number",3)]) rfl sc.nd (cC (pv 0)) (cY (N:=["numbers","signs","sign","number"]) (sc:=bD pS) (by decide+kernel)) (λ_ _ _ _ _=>(bh 3 sc.nd)) (λ_ _ _ _ _=>fU) (λ_ _ _ _ _=>(uQ l (pv 1) (pv 3) (cG rfl T.n6) ⟨rfl,rfl,rfl,rfl⟩)))))))),?_⟩
 left;simp[Ov,uO,pY,tC];intro p D;show⟨av,?_⟩;show⟨[(Sum.inl 13,.str (Str.ofString " "))],rfl,by decide,?_⟩;simp[lH];have l:aD H (upd H p (.dK [])):=λc o e=>by rw[aF (aA e D)];show e
 have sz:∀{n:Nat},n<=100->n<=sizeLine:=λ{n} h=>by rw[Wx];lia
 show⟨_,rfl,_,rfl,sz (by decide),_,rfl,_,rfl,sz (by decide),_,rfl,_,rfl,sz (by decide),_,rfl,?_⟩;have h:=JA;generalize l:(Str.ofString "abcdefghijklmnopqrstuvwxyz0123456789_" ++Str.ofString "-:;{}" ++Str.ofString " \t\n" ++Str.ofString "#")=S at h|-;have T:S.cps.size<=46:=by rw[<- l];decide
 show NP (λi T b =>∃l,T=[some (.ref g),some (.ref p),l,none]/\b =upd H p (.dK (ja ((tl S).take i)))) ⟨none,rfl,rfl⟩ ?_ ?_;rintro i d T b f ⟨l,rfl,rfl⟩;have j:i<S.cps.size:=(Xz.mp f).1;left
 have r:(ja ((tl S).take i)).length<sizeLine:=by
  have x:=Jz ((tl S).take i);have x:((tl S).take i).length<=i:=List.length_take_le _ _;rw[Wx]
  lia
 show⟨rfl,.inl ⟨_,Sum.inl (d:Int),av,rfl,r,?_⟩⟩;rw[lH];congr 2;have:(tl S)[i]? =some d:=by simpa using f
 rw[W7,this];unfold ja;rw[ZF];rfl;rintro T b ⟨l,rfl,rfl⟩;have l:(tl S).take S.cps.size=tl S:=W2 (by simp);rw[l];left;have d:aD H (upd H p (.dK (ja (tl S)))):=λc o e=>by rw[aF (aA e D)];show e
 have T:upd H p (HO.dK (ja (tl S))) p=some (.dK (ja (tl S))):=av;generalize upd H p (HO.dK (ja (tl S)))=f at d T|-;have l:=d.seq m;show⟨_,rfl,g,rfl,⟨_,l⟩,λD S=>BV (xs:=a.map λn:Nat=>V.int n) (λi b =>b =upd f D (.lst ((a.take i).map λn=> .str ⟨#[norm n]⟩))) ?_ ?_ ?_ ?_⟩;simp;rintro i b j rfl;show aD.seq (λc o e=>by rw[aF (aA e S)];show e) l;rintro i v b p rfl;rw[Ws]at p;cases l:a[i]? with
 |none=>rw[l]at p;cases p
 |some n=>
  rw[l]at p;cases p;have p:=q n (Wq l);have j:=(Wo.mp l).1;left;have p:=aA T S;show⟨.inl ⟨_,.inl (by rw[aF p];show T)⟩,_,dJ.k (k:=Sum.inl (n:Int)) (by rw[aF p];show T),?_,?_⟩;rw[Wx]
  lia
  rw[h ⟨n,by lia⟩,W7,Ws,l];rfl
 rintro b rfl;show⟨D,rfl,a.map (λn=>(⟨#[norm n]⟩:Str)),.inl (bG.of ?_),?_,?_⟩;rw[av];simp;have p:(Str.ofString "").length=0:=rfl
 have T:∀l:ah Nat,((l.map (λn=>(⟨#[norm n]⟩:Str))).map λx=>x.length).sum=l.length:=by
  intro l
  induction l with
  |nil=>rfl
  |cons n l h=>
   rw[WM,WM,aa5,h,WG];change 1+l.length=_
   lia
 rw[p,Nat.mul_zero,T]
 lia
 have l:aD H (upd f D (.lst ((a.take (a.map λn:Nat=>V.int n).length).map λn=> .str ⟨#[norm n]⟩))):=d.trans λc o e=>by rw[aF (aA e S)];show e
 have:=k _ l;rw[Nt];have l:Str.join (Str.ofString "") (a.map λn=>⟨#[norm n]⟩)=strOf (a.map norm):=by show q4 ?_;rw[HR,qo];rw[WN,<- JB (a.map norm),WN];rfl
 rw[l];show this
inductive qv(K:ay)(cc:aC->ai)(d:ah V)(H:Hp)(Q:VK)(e:XK):Prop
 |mk (a n:ai) (b:ah Nat) (f:ai) (_:d=[.ref a,.ref n]) (_:H a=some (.ins (cc "Reader") f [])) (_:bG K H n (b.map λn:Nat=> .int n)) (_:b.length<=4096) (_:(∀n∈b,n<=255)) (_:∀c,bS [a] H c->Ob c a (cc "Reader") [("text",.str (strOf (b.map norm))),("place",.int ((0:Nat):Int))]->Q .non c):qv K cc d H Q e
theorem LP(a:En P w K B base CT cc I):MN P w K B base CT (cc "Reader") "Reader" 2 ["self","numbers"] (qv K cc):=by
 show Jm a a.DX a.fE ["self","numbers"] λf b A c s H d Q E g h sc T=> ?_;obtain⟨A,n,i,b,rfl,c,f,e,d,k⟩:=h
 show⟨_,(aE (bX T.bE T.eE (pw 0) (aR (Ce a) g aM (aj (pw 1) ao)) rfl)
  (au (bX T.bE T.eT (pw 0) aO rfl))),?_⟩
 left;show⟨n,i,rfl,f,e,d,λa s=>⟨b,[],s _ _ c,by simp,?_⟩⟩;simp[iy,cW,bN];show k _ ((aD.but s _).trans bS.upd) ⟨b,av⟩
noncomputable def oB (c:Column):ah (Str×V):=match c.kind with
 | .number lo a=>iB lo a .non false "refuse" c.unique
 | .ref t n a=>iB (-1000000) 1000000 (.int (t:Nat)) n (jw a) c.unique
inductive AG(cc:aC->ai)(H:Hp)(v:V)(c:Column):Prop
 |mk (a) (_:v= .ref a) (_:Ob H a (cc "Column") (oB c)):AG cc H v c
inductive Eo(cc:aC->ai)(H:Hp)(v:V)(t:Table):Prop
 |mk (a cs) (_:v= .ref a) (_:H a=some (.lst cs)) (_:Paired (AG cc H) cs t.columns):Eo cc H v t
inductive eL(cc:aC->ai)(H:Hp)(v:V)(s:Schema):Prop
 |mk (a ts) (_:v= .ref a) (_:H a=some (.lst ts)) (_:Paired (Eo cc H) ts s):eL cc H v s
theorem fO c:blank (norm c)=blank c/\(norm c==35)=(c==35)/\small (norm c)=small c/\digit (norm c)=digit c/\VauowBase.signs.contains (norm c)=VauowBase.signs.contains c/\inner (norm c)=inner c/\
 (inner c=true->norm c=c)/\(VauowBase.signs.contains c=true->norm c=c)/\(norm c !=10)=(c !=10):=by
 by_cases h:c<256
 have:∀c:Fin 256,blank (norm c.val)=blank c.val/\(norm c.val==35)=(c.val==35)/\small (norm c.val)=small c.val/\digit (norm c.val)=digit c.val/\VauowBase.signs.contains (norm c.val)=VauowBase.signs.contains c.val/\inner (norm c.val)=inner c.val/\
  (inner c.val=true->norm c.val=c.val)/\(VauowBase.signs.contains c.val=true->norm c.val=c.val)/\(norm c.val !=10)=(c.val !=10):=by decide+kernel
 show this ⟨c,h⟩;have a:small c=false:=by unfold small;simp;lia
 have b:digit c=false:=by unfold digit;simp;lia
 have d:VauowBase.signs.contains c=false:=by simp[VauowBase.signs];lia
 have e:inner c=false:=by unfold inner;rw[a,b];simp;lia
 have f:norm c=63:=by
  unfold norm;rw[Wn (by lia),d,e];have:(c==32)=false:=by simp;lia
  have g:(c==9)=false:=by simp;lia
  have i:(c==10)=false:=by simp;lia
  have j:(c==35)=false:=by simp;lia
  rw[this,g,i,j];rfl
 have g:blank c=false:=by
  unfold blank;simp
  lia
 have i:(c==35)=false:=by simp;lia
 have j:(c !=10)=true:=by simp;lia
 rw[a,b,d,e,f,g,i,j];show⟨rfl,rfl,rfl,rfl,rfl,rfl,(λh=>by cases h),(λh=>by cases h),rfl⟩
theorem vm{f:Nat->Bool}(h:∀c,f (norm c)=f c)(a:∀c,f c=true->norm c=c)(r:ah Nat):(r.map norm).takeWhile f=r.takeWhile f:=by
 induction r with
 |nil=>rfl
 |cons c r b=>
  rw[WM,abE,abE,h,b];cases h:f c with
  |true=>rw[a c h]
  |false=>rfl
theorem rz{f:Nat->Bool}(a:∀c,f (norm c)=f c)(r:ah Nat):(r.map norm).dropWhile f=(r.dropWhile f).map norm:=by
 induction r with
 |nil=>rfl
 |cons c r b=>rw[WM,abF,abF,a,b];cases h:f c<;>rfl
theorem r6(h:digit c=true):inner c=true:=by unfold inner;rw[h];simp
theorem gq w:∀k t,tokensIn w k (t.map norm)=tokensIn w k t
 |0,t=>by change[(w-(t.map norm).length,_)]=_;rw[Wl];rfl
 |k+1,[]=>rfl
 |k+1,c::r=>by obtain⟨g,i,j,l,m,q,b,n,s⟩:=fO c;have o:=vm (f:=inner) (λc=>(fO c).2.2.2.2.2.1) (λc=>(fO c).2.2.2.2.2.2.1) r;have p:=vm (f:=digit) (λc=>(fO c).2.2.2.1) (λc h=>(fO c).2.2.2.2.2.2.1 (r6 h)) r;have d:=rz (f:=inner) (λc=>(fO c).2.2.2.2.2.1) r;have e:=rz (f:=digit) (λc=>(fO c).2.2.2.1) r;have f:=rz (f:=λx=>x !=10) (λc=>(fO c).2.2.2.2.2.2.2.2) r;rw[WM];simp only[tokensIn];rw[g,i,j,l,m,o,p,d,e,f,Wl,gq w k r,gq w k (r.dropWhile _),gq w k (r.dropWhile _),gq w k (r.dropWhile _)];split;rfl;split;rfl;split;rename_i a;rw[b (PM.rY a)];split;rename_i a;rw[b (r6 a)];split;rename_i a;rw[n a];rfl
theorem Ep a:PM.tk (tl (strOf (a.map norm))) 0=tokens a:=by change tokensIn (a.map norm).length ((a.map norm).length+1) (a.map norm)=_;rw[Wl,gq];rfl
theorem GO(a:ah Nat):Lx (strOf (a.map norm)):=by
 intro v h;rw[qo,Ws]at h;cases e:a[v]? with
 |none=>rw[e]at h;cases h
 |some c=>rw[e]at h;have h:=W5 h;unfold norm at h;split at h;cases h;split at h;rename_i b _;show b h;cases h
def Qn(l:ah RawTable):RawKind->VauowBase.Kind
 | .number lo a=> .number lo a
 | .ref _ w n a=> .ref ((indexOf l w).getD 0) n a
def rA(l:ah RawTable)(x:RawColumn):Column:={name:=x.name,kind:=Qn l x.kind,unique:=x.unique}
def Cg(l:ah RawTable)(x:RawTable):Table:={name:=x.name,columns:=x.columns.map (rA l)}
def vn(o:az TextFault)(a:f):Except TextFault f:=match o with
 |some f=> .error f
 |none=> .ok a
theorem GQ l k:kindFor l k=vn (gi l k) (Qn l k):=by
 cases k with
 |number=>rfl
 |ref p w n a=>change(match indexOf l w with|some t=>_|none=>_)=vn (if(indexOf l w).isSome then none else some (7,p)) (VauowBase.Kind.ref ((indexOf l w).getD 0) n a);cases indexOf l w<;>rfl
theorem oW l:∀c,columnsFor l c=vn (c.findSome? λx=>gi l x.kind) (c.map (rA l))
 |[]=>rfl
 |x::c=>by
  change(kindFor l x.kind).bind (λk=>(columnsFor l c).map _)=_;rw[GQ,oW l c,X4];cases gi l x.kind with
  |some f=>rfl
  |none=>cases c.findSome? λx=>gi l x.kind<;>rfl
theorem Ci l:tablesFor l=vn ((l.flatMap (·.columns)).findSome? λx=>gi l x.kind) (l.map (Cg l)):=by
 have:∀t:ah RawTable,t.foldr (λx r=>(columnsFor l x.columns).bind λc=>r.map λz=>({name:=x.name,columns:=c}:Table)::z) (.ok [])=vn ((t.flatMap (·.columns)).findSome? λx=>gi l x.kind) (t.map (Cg l)):=by
  intro t
  induction t with
  |nil=>rfl
  |cons x t c=>
   rw[List.foldr_cons,c,oW,ZG,List.findSome?_append];cases x.columns.findSome? λx=>gi l x.kind with
   |some f=>rfl
   |none=>rw[Option.none_or];cases(t.flatMap (·.columns)).findSome? λx=>gi l x.kind<;>rfl
 show this l
theorem NQ l x:Jx l x.kind x.unique=oB (rA l x):=by unfold Jx oB rA Qn;cases x.kind<;>rfl
theorem OQ{J:It}{l:TG}{r:L2.TT}{q:TE}{d:ah Nat}{p:L2.St}{h:Hp}{D:ai}{k:Hp->Prop}(n:Nat)(b:Nat->Hp->Prop)(s:b 0 (upd h D (.lst [])))(u:∀i H,i<n->b i H->J.go i H)(w:∀H,b n H->J.stop n H)
 (v:∀i x H a,i<n->b i H->J.BE i H x a->l x (d9 p d) a λc g=>d9 c d=d9 p d/\r c g λj e=>
   if j=true then q c e λy f=>∃acc,f D=some (.lst acc)/\acc.length<sizeLine/\b (i+1) (upd f D (.lst (acc++[y])))else b (i+1) e) (t:∀H,b n H->k H):
 ∃W:Nat->Nat->Hp->Prop,(∃m,W 0 m (upd h D (.lst [])))/\∀i m H,W i m H->
  (J.stop i H/\k H)∨(J.go i H/\∃h:Hp->Prop,(∀a,h a->∃o,o <m/\W (i+1) o a)/\∀x a,J.BE i H x a->l x (d9 p d) a λc g=>d9 c d=d9 p d/\r c g λj e=>
    if j=true then q c e λy f=>∃acc,f D=some (.lst acc)/\acc.length<sizeLine/\h (upd f D (.lst (acc++[y])))else h e):=by
 show⟨λi m H=>m=n-i/\i<=n/\b i H,⟨n,by simp,Xb _,s⟩,?_⟩;rintro i m H ⟨rfl,e,p⟩;by_cases c:i<n;show .inr ⟨u i H c p,b (i+1),λa e =>⟨_,Ye _ _ c,rfl,c,e⟩,λx a y=>v i x H a c p y⟩;have e:i=n:=by lia
 subst e;show .inl ⟨w H p,t H p⟩
theorem LQ{H:Hp}{l:ah RawTable}:∀{L:sW},(∀z∈L,AF cc H l z)->Paired (AG cc H) (L.map λz=>V.ref z.2) ((L.map (·.1)).map (rA l))
 |[],_=> .nil
 |z::L,h=> .cons ⟨z.2,rfl,by rw[<- NQ];show h z WD⟩ (LQ λy l=>h y (Wz _ l))
theorem Qo(p:Paired (λq(z:RawTable×ai×sW)=>H q=some (.lst (z.2.2.map λc=>V.ref c.2))) qs TL)(a:∀z∈TL,z.1.columns=z.2.2.map (·.1))(b:∀z∈TL,∀c∈z.2.2,AF cc H l c):Paired (Eo cc H) (qs.map V.ref) ((TL.map (·.1)).map (Cg l)):=by
 induction p with
 |nil=>show .nil
 | @cons q z _ _ r _ H=>show .cons ⟨q,_,rfl,r,?_⟩ (H (λy c=>a y (Wz _ c)) λy c=>b y (Wz _ c));change Paired _ _ (z.1.columns.map (rA l));rw[a z WD];show LQ (b z WD)
theorem LR(h:∀z∈TL,z.1.columns=z.2.2.map (·.1)):(TL.map (·.1)).flatMap (·.columns)=(eB TL).map (·.1):=by
 induction TL with
 |nil=>rfl
 |cons z TL b=>change z.1.columns++(TL.map (·.1)).flatMap (·.columns)=(z.2.2++eB TL).map (·.1);rw[b λy a=>h y (Wz _ a),h z WD,WZ]
theorem bf(h:∀a b,R a b->S a b):∀{xs}{c},Paired R xs c->Paired S xs c
 |_,_,.nil=> .nil
 |_,_,.cons r t=> .cons (h _ _ r) (bf h t)
inductive Er(K:ay)(cc:aC->ai)(c:ah V)(H:Hp)(Q:VK)(E:XK):Prop
 |mk (n:ai) (b:ah Nat) (_:c=[.ref n]) (_:bG K H n (b.map λn:Nat=> .int n)) (_:b.length<=4096) (_:(∀n∈b,n<=255)) (_:(∀f,readSchema b= .error f->∀a,aD H a->E (.int (f.1:Nat) 0) (some f.2) a)) (_:(∀s v a,readSchema b= .ok s->aD H a->eL cc a v s->Q v a)):Er K cc c H Q E
theorem xD(j:En P w K B base CT cc I):fc P w K B base CT "read_schema" 13 ["numbers"] (Er K cc):=by
 show cg j j.fs.wN ["numbers","mentions","tables","columns"] λO n A t s H r Q E m h sc T=> ?_;obtain⟨v,f,rfl,u,s,q,y,J⟩:=h
 show⟨_,(aE (aP 1 sc.nd (bI ao))
  (aE (aP 2 sc.nd (aR (xo j) m bQ (aj (pH (LP j) m aM (aj (pw 0) ao)) (aj (pw 1) ao))))
  (aE (bP (aR (qu j) m bQ (aj (pw 1) (aj (dH (uW rfl) rfl T.nh boot_list (aj (pw 2) ao)) ao))))
  (au (aJ (qc (ju (own:=[("columns",3)]) rfl sc.nd (Jf (pv 2)) (cY (N:=["numbers","mentions","tables","columns"]) (sc:=bD oM) (by decide+kernel)) (λ_ _ _ _ _=>(bh 3 sc.nd)) (λ_ _ _ _ _=>fU) (λ_ _ _ _ _=>(dH (K6 rfl) rfl T.nh boot_list (aj (Jj (pw 3)) ao)))))))))),?_⟩
 left;intro m n x t j T r;have k:aD H (upd H m (.lst [])):=λb o e=>by rw[aF (aA e n)];show e
 have p:upd H m (.lst []) m=some (.lst []):=av;generalize upd H m (.lst [])=l at k p j T|-;have d:=(D0 (C:=cc "Reader") (fs:=[]) j T r).1;show⟨x,v,f,t,rfl,av,aD.seq (k.trans d) u,s,q,λr T A=>⟨rfl,?_⟩⟩;have s:aD l r:=λb o e=>T _ _ (b6 (aA e j)) (d _ _ e);have fr:∀d,bS [x,m] r d->aD H d :=λd l g o e=>l _ _ (R5 ⟨aA (k _ _ e) j,aA e n⟩) (s _ _ (k _ _ e))
 have T:dM cc r x (strOf (f.map norm)) (tokens f):=⟨0,A,by
  have:(strOf (f.map norm)).length=f.length:=by rw[eS,qo,Wl]
  rw[this,Wx]
  lia,GO f,Xb _,Ep f⟩
 show⟨x,m,_,_,rfl,T,s _ _ p,λO v d l =>y O ?_ d (fr d l),λTL A D E j n c t=> ?_⟩;unfold readSchema VauowBase.TABLES;rw[v];rfl;have u:readSchema f=tablesFor (TL.map (·.1)):=by unfold readSchema VauowBase.TABLES;rw[n];rfl
 rw[Ci,LR λz a=>(c.tb z a).2.1,List.findSome?_map]at u;show⟨D,iP TL,rfl,.inl c.dd,λp T=> ?_⟩;have q:aD j (upd j p (.lst ((iP TL).map λn=>kV n.1))):=λb o e=>by rw[aF (aA e T)];show e
 have T:upd j p (HO.lst ((iP TL).map λn=>kV n.1)) p=some (.lst ((TL.map (·.1)).map λt=> .str (strOf t.name))):=by rw[av];unfold iP;rw[WN,WN];rfl
 generalize upd j p (HO.lst ((iP TL).map λn=>kV n.1))=t at q T|-;have C:aD H t:=(fr j c.fr).trans q;have t:∀z∈eB TL,∀b o,H b=some o->b≠z.2:=λz a b o e h=>by have j:=s _ _ (k _ _ e);rw[h,c.ok.new z a]at j;cases j
 have A:∀b o,H b=some o->b∉(eB TL).map (·.2):=λb o e h=>by obtain⟨z,a,n⟩:=Wy.mp h;show t z a b o e n.symm
 show⟨m,p,E,eB TL,TL.map (·.1),r,rfl,q _ _ c.mm,T,c.ok.but (aD.but q []) (by simp),c.OO.but (aD.but q []) (by simp),λO v d l => ?_,λG j t F=> ?_⟩;show y O ?_ d λb o e=>l b o (A b o e) (C _ _ e);rw[u];change vn ((eB TL).findSome? λz=>gi (TL.map (·.1)) z.1.kind) _=_;rw[v];rfl;have E:readSchema f= .ok ((TL.map (·.1)).map (Cg (TL.map (·.1)))):=by rw[u];change vn ((eB TL).findSome? λz=>gi (TL.map (·.1)) z.1.kind) _=_;rw[G];rfl
 have m:D∉(eB TL).map (·.2):=λh=>by obtain⟨z,a,n⟩:=Wy.mp h;show kG (c.ok.at_ z a) c.dd n
 have u:=t _ _ m (q _ _ c.dd);have G:aD H j:=λb o e=>t b o (A b o e) (C _ _ e);have T:∀z∈TL,j z.2.1=some (.dK (kvsOf z.2.2)):=λz a=>t _ _ (λh=>by obtain⟨t,m,n⟩:=Wy.mp h;show kG (c.ok.at_ t m) (c.tb z a).1 n) (q _ _ (c.tb z a).1)
 have A:H D=none:=by
  cases q:H D with
  |none=>rfl
  |some o=>have:=s _ _ (k _ _ q);rw[c.dn]at this;cases this
 show⟨D,_,u,True.intro,λf=> ?_⟩;have H:upd j D (HO.dI f (.dK (iP TL))) D=some (.dI f (.dK (iP TL))):=av;have k:bS [D] j (upd j D (HO.dI f (.dK (iP TL)))):=bS.upd;generalize upd j D (HO.dI f (.dK (iP TL)))=m at H k|-;show⟨_,rfl,D,f,iP TL,rfl,H,λO v=>OQ TL.length (λi d =>∃qs:ah ai,d O=some (.lst (qs.map V.ref))/\aD m d/\qs.length=i/\Paired (λq(z:RawTable×ai×sW)=>q≠O/\d q=some (.lst (z.2.2.map λg=>V.ref g.2))) qs (TL.take i)) ?_ ?_ ?_ ?_ ?_⟩;show⟨[],av,λb o e=>by rw[aF (aA e v)];show e,rfl,.nil⟩;rintro i d m ⟨qs,_,f,_⟩;show⟨f _ _ H,by unfold iP;rw[Wl];show m⟩;rintro d ⟨qs,_,f,_⟩;show⟨f _ _ H,by unfold iP;rw[Wl];show Wu _⟩;rintro i d y p m ⟨qs,j,f,s,l⟩ ⟨rfl,r,n⟩;left;simp[d9,I8,HY,K5,pY];have a:TL[i]? =some TL[i]:=Wr m;generalize TL[i]=z at a;have m:=Wq a;unfold iP at n;rw[Ws,a]at n;cases n;have n:=f _ _ (k _ _ (b6 ((c.tb z m).2.2.1)) (T z m));show⟨z.2.1,rfl,⟨_,.inl n⟩,λm T=>⟨z.2.1,av,_,.inl (by rw[aF (aA n T)];show n),λq r=> ?_⟩⟩;have n:aD p (upd p m (DW m z.2.1)):=λb o e=>by rw[aF (aA e T)];show e
 generalize upd p m (DW m z.2.1)=d at n r|-;have m:aD d (upd d q (HO.lst ((kvsOf z.2.2).map (·.2)))):=λb o e=>by rw[aF (aA e r)];show e
 have T:upd d q (HO.lst ((kvsOf z.2.2).map (·.2))) q=some (.lst (z.2.2.map λg=>V.ref g.2)):=by rw[av];unfold kvsOf;rw[WN];rfl
 have p:q≠O:=λe=>by have:=n _ _ j;rw[<- e,r]at this;cases this
 generalize upd d q (HO.lst ((kvsOf z.2.2).map (·.2)))=r at m T|-;show⟨_,m _ _ (n _ _ j),?_,qs++[q],by simp,λb o e=> ?_,?_,?_⟩;rw[Wl,s,Wx]
 lia
 rw[aF (aA e v)];show m _ _ (n _ _ (f _ _ e));simp;show s;rw[W7,a];show nC (x:=q) (y:=z) ⟨p,by rw[aF p];show T⟩ ?_;show bf (λT t h=>⟨h.1,by rw[aF h.1];show m _ _ (n _ _ h.2)⟩) l;rintro y ⟨qs,j,f,s,l⟩;rw[Y0]at l;show⟨f _ _ H,J _ _ _ E (λb o e=> ?_) ⟨O,qs.map V.ref,rfl,?_,Qo (qs:=qs) (TL:=TL) ?_ (λz a=>(c.tb z a).2.1) λz a g n=> ?_⟩⟩;have m:=aA e A;rw[aF m];show f _ _ (k _ _ (b6 m) (G _ _ e));have:=bF j (f _ _ H) (by simp);rw[aF this];show j;show bf (λT t h=> ?_) l;rw[aF (bF h.2 (f _ _ H) (by simp))];show h.2;have j:g∈eB TL:=ZP.mpr ⟨z,a,n⟩;obtain⟨n,m⟩:=F g j;have j:=bF m u (by simp);show⟨n,?_⟩;rw[aF j];show f _ _ (k _ _ (b6 j) m)
def rB(J:It)(k:TG)(n:L2.TT)(l:TE)(c:ah Nat)(g:L2.St)(a:Hp)(Q:VK):Prop:=∀D,a D=none->∃W:Nat->Nat->Hp->Prop,(∃m,W 0 m (upd a D (.lst [])))/\∀i m H,W i m H->
 (J.stop i H/\Q (.ref D) H)∨(J.go i H/\∃b:Hp->Prop,(∀a,b a->∃f,f <m/\W (i+1) f a)/\∀x a,J.BE i H x a->k x (d9 g c) a λd h=>d9 d c=d9 g c/\n d h λj e=>
   if j=true then l d e λy a=>∃acc,a D=some (.lst acc)/\acc.length<sizeLine/\b (upd a D (.lst (acc++[y])))else b e)
theorem gj:Ry f g d c e a H Q=f a H λJ b=>rB J g d c e a b Q:=rfl
theorem GR{J:It}{h:TG}{k:TE}{f:ah Nat}{g:L2.St}{c:Hp}{Q:VK}(n:Nat)(j:Nat->V)(e:ai->Nat->Hp->V->Prop)(a:n<sizeLine)
 (p:∀D i H b y,e D i H y->bS [D] H b->e D i b y) (o:∀i H,i<n->aD c H->J.go i H) (r:∀H,aD c H->J.stop n H) (t:∀i H x b,i<n->aD c H->J.BE i H x b->b =H/\x=j i)
 (v:∀D i H a,i<n->c D=none->aD c H->(∃acc,H D=some (.lst acc))->(∀y d,aD H d->e D i d y->a y d)->h (j i) (d9 g f) H λl m=>d9 l f=d9 g f/\k l m a)
 (q:∀D a b,c D=none->aD c b->b D=some (.lst a)->a.length=n->(∀(i:Nat) y,a[i]? =some y->e D i b y)->Q (.ref D) b):
 rB J h I8 k f g c Q:=by
 intro D l;show OQ n (λi b =>i<=n/\aD c b/\∃a,b D=some (.lst a)/\a.length=i/\∀(j:Nat) y,a[j]? =some y->e D j b y) ?_ ?_ ?_ ?_ ?_;show⟨Xb _,λQ u g=>by rw[aF (aA g l)];show g,[],av,rfl,λj y h=>by simp at h⟩;rintro i H h ⟨_,s,_⟩;show o i H h s;rintro H ⟨_,s,_⟩;show r H s;rintro i x H b h ⟨_,s,a,m,k,o⟩ f;obtain⟨rfl,rfl⟩:=t i H x b h s f;have t:=v D i b (λy d=>∃acc,d D=some (.lst acc)/\acc.length<sizeLine/\(i+1<=n/\aD c (upd d D (.lst (acc++[y])))/\∃a,upd d D (.lst (acc++[y])) D=some (.lst a)/\a.length=i+1/\∀(j:Nat) f,a[j]? =some f->e D j (upd d D (.lst (acc++[y]))) f)) h l s ⟨a,m⟩ ?_;show t;intro y d c e;show⟨a,c _ _ m,by rw[k];lia,h,λQ u g=> ?_,a++[y],av,by simp[k],λj f b=> ?_⟩;rw[aF (aA g l)];show c _ _ (s _ _ g);by_cases h:j<a.length;rw[Y8 h]at b;show p D j _ _ f (p D j _ _ f (o j f b) (aD.but c _)) bS.upd;have h:=(Wo.mp b).1;simp at h;have:j=a.length:=by lia
 subst this;rw[Y4 (Wu _)]at b;simp at b;subst b;rw[k];show p D i _ _ y e bS.upd;rintro H ⟨_,s,a,m,k,o⟩;show q D a H l s m k o
theorem vo{K:ay}{f:ai}{xs:ah V}{j:TG}{k:TE}{d:ah Nat}{h:L2.St}{s:Hp}{Q:VK}(g:bG K s f xs)(b:ai->Nat->Hp->V->Prop)(n:xs.length<sizeLine)
 (o:∀D i H a y,b D i H y->bS [D] H a->b D i a y)
 (p:∀D i x H c,xs[i]? =some x->s D=none->aD s H->(∃acc,H D=some (.lst acc))->(∀y e,aD H e->b D i e y->c y e)->j x (d9 h d) H λl m=>d9 l d=d9 h d/\k l m c)
 (l:∀D e a,s D=none->aD s a->a D=some (.lst e)->e.length=xs.length->(∀(i:Nat) y,e[i]? =some y->b D i a y)->Q (.ref D) a):
 rB (CG K f) j I8 k d h s Q:=by
 show GR (J:=CG K f) xs.length (λi=>(xs[i]?).getD .non) b n o (λi H d s=>⟨xs,xs[i],s.seq g,by simp[d]⟩) (λH s=>⟨xs,s.seq g,Wu _⟩) (λi H x a d s h=> ?_) (λD i H c d j s k m=> ?_) l;obtain⟨e,y⟩:=h;show⟨e,?_⟩;rw[y xs (s.seq g)];rfl;have e:=Wr d;rw[e];show p D i _ H c e j s k m
inductive AH(a:ah V)(H:Hp)(Q:VK)(b:XK):Prop
 |mk (i:Int) (_:a=[.int i]) (_:Q (.bl (isValue i)) H):AH a H Q b
theorem vp(a:En P w K B base CT cc I):fc P w K B base CT "is_value" 1 ["number"] AH:=by show cg a a.fs.FI ["number"] λf i A c s H d Q E b h sc T=> ?_;obtain⟨i,rfl,k⟩:=h;show⟨_,(au (aJ (Dm mV mV (bA rfl T.gn) (pw 0) (bA rfl T.g9)))),?_⟩;left;unfold isValue TOP at k;by_cases h: -1000000<=i;rw[Wt h];rw[WK h,ZU]at k;show k;rw[Wn h];rw[WC h,aaJ]at k;show k
abbrev aG(l:ah Int):ah V:=l.map V.int
def tO(H:Hp)(c:ah V)(b:ah (ah Int)):Prop:=Paired (λv l=>∃a,v= .ref a/\H a=some (.lst (aG l))) c b
noncomputable def fP:Int->ah (ah Int)->Bool
 |_,[]=>true
 |last,r::a=>decide (last<r.headD 0)&&decide (r.headD 0<=99)&&(r.drop 1).all isValue&&fP (r.headD 0) a
inductive PH{b c:Type}(R:b->c->Prop)(a:ah c)(i:Nat)(x:b):Prop
 |mk (y) (_:a[i]? =some y) (_:R x y):PH R a i x
theorem bB :∀{xs}{h}{i}{x},Paired R xs h->xs[i]? =some x->PH R h i x
 |_,_,_,_,.nil,h=>by simp at h
 |_,_,0,x,.cons (b:=y) q t,h=>by simp at h;subst h;show⟨y,rfl,q⟩
 |_,_,i+1,x,.cons q t,h=>by obtain⟨y,q,x⟩:=bB (i:=i) t (by simpa using h);show⟨y,by simpa using q,x⟩
theorem jZ{a:Type}{l:ah a}{i:Nat}{x:a}(h:l[i]? =some x):l.drop i=x::l.drop (i+1):=by obtain⟨a,e⟩:=Wo.mp h;rw[ZR a,e]
inductive vt(c:ah V)(H:Hp)(Q:VK)(d:XK):Prop
 |mk (a xs rows) (_:c=[.ref a]) (_:H a=some (.lst xs)) (_:tO H xs rows) (_:(∀r∈rows,r≠[]/\r.length<=5)) (_:∀b,aD H b->Q (.bl (fP 0 rows)) b):vt c H Q d
theorem nD(i:En P w K B base CT cc I):fc P w K B base CT "rows_are_well_made" 2 ["rows"] vt:=by
 show cg i i.fs.mR ["rows","last","row","number"] λf d A x s H g Q E u h sc T=> ?_;obtain⟨b,xs,f,rfl,d,v,g,l⟩:=h
 show⟨_,(aK (aP 1 sc.nd (ef Pk (bA rfl T.jW) aO))
  (aK (cS WT rfl (cC (pv 0)) (bh 2 sc.nd)
  (aK (bz (gM (mW rS mV (pw 1) (bH aY (pw 2) aO) (bA rfl T.n7)))
  (au (aJ kX))
  aN)
  (aK (bz (gM (dg (bw (Gb rfl) rfl T.Al boot_all (aj (ju (own:=[("number",3)]) rfl sc.nd (cC (fL lI (pv 2) (ek aO) p7)) (cY (N:=["rows","last","row","number"]) (sc:=bD jc) (by decide+kernel)) (λ_ _ _ _ _=>(bh 3 sc.nd)) (λ_ _ _ _ _=>fU) (λ_ _ _ _ _=>(aR (vp i) u aM (aj (pw 3) ao)))) ao))))
  (au (aJ kX))
  aN)
  (au (aP 1 sc.nd (bH aY (pw 2) aO))))))
  (au (aJ kX)))),?_⟩
 left;walk_at "l";show⟨_,rfl,b,rfl,⟨_,bG.of d⟩,dN (xs:=xs) (λi q a =>MP λc m o=>OD (q=[some (.ref b),some (.int c),m,o]) (aD H a) (fP 0 f=fP c (f.drop i))) ⟨0,none,none,rfl,aD.refl _,rfl⟩ ?_ ?_ ?_⟩;rintro i q a u ⟨c,m,o,rfl,s,e⟩;show bG.of (s _ _ d);rintro i d q a b ⟨c,m,o,rfl,s,e⟩;right;obtain⟨r,d,x,rfl,u⟩:=bB v b;have T :=s _ _ u;have u:=Wq d;left;cases r with
 |nil=>show absurd rfl (g _ u).1
 |cons h t=>
  rw[jZ d]at e;have e:fP 0 f=(decide (c<h)&&decide (h<=99)&&t.all isValue&&fP h (f.drop (i+1))):=e;show⟨_,bG.of T,.int h,dF (j:=0) rfl rfl,h,rfl,?_⟩;by_cases i:c<h;rw[Wt i];show⟨h,rfl,?_⟩;by_cases k:h<=99;rw[Wt k];left;rw[gj];show⟨_,rfl,1,rfl,x,_,rfl,bG.of T,λp f=>⟨p,rfl,⟨_,bG.of av⟩,?_⟩⟩;have d:jy (aG (h::t)) (some 1) none=aG t:=by unfold jy;rw[show((1:Int))=((1:Nat):Int)from rfl,HT.gy,HT.mX];simp;show W2 (by simp)
  rw[d];have r:aD a (upd a p (.lst (aG t))):=λd x e=>by rw[aF (aA e f)];show e
  have d:upd a p (.lst (aG t)) p=some (.lst (aG t)):=av;generalize upd a p (.lst (aG t))=f at r d|-;dsimp only;show vo (bG.of d) (λD j H y=>∃n,t[j]? =some n/\y= .bl (isValue n)) ?_ (λD j H a y h _=>h) ?_ ?_;have:=(g _ u).2;rw[Wl,Wx];simp at this
  lia
  intro D j A H d f g u z x;rw[Ws]at f;cases d:t[j]? with
  |none=>rw[d]at f;cases f
  |some n=>rw[d]at f;cases f;left;show⟨n,rfl,x _ H (aD.refl _) ⟨n,d,rfl⟩⟩
  intro D f H g u z C A;have x:=s.trans (r.trans u)
  have E:f=(t.map isValue).map V.bl:=by
   show Yd λj=> ?_;cases d:f[j]? with
   |none=>have:=Yj.mp d;rw[Xh (by simp at C|-;lia)]
   |some y=>obtain⟨n,f,g⟩:=A j y d;rw[Ws,Ws,f,g];rfl
  subst E;show⟨D,rfl,t.map isValue,bG.of z,?_⟩;have d:(false∈t.map isValue)↔t.all isValue=false:=by rw[Wy,abU];constructor;rintro⟨n,f,g⟩;show⟨n,f,by rw[g];simp⟩;rintro⟨n,f,g⟩;show⟨n,f,by simpa using g⟩
  cases b:t.all isValue with
  |false=>rw[Wt (d.mpr b)];have:=l H x;rw[e,b]at this;simpa using this
  |true=>rw[Wn λz=>by rw[d.mp z]at b;cases b];left;show⟨_,bG.of (u _ _ (r _ _ T)),.int h,dF (j:=0) rfl rfl,h,rfl,x,?_⟩;rw[e,WK i,WK k,b];rfl
  rw[Wn k];have:=l a s;rw[e,WC k]at this;simpa using this;rw[Wn i];have:=l a s;rw[e,WC i]at this;simpa using this
 rintro q a ⟨c,m,o,rfl,s,e⟩;left;have:=l a s;rw[e,Xk (by rw[aT v];show Wu _)]at this;show this
def cF(w:Nat):Nat->ah Int->ah (ah Int)
 |0,_=>[]
 |n+1,l=>l.take w::cF w n (l.drop w)
theorem Qp:∀(w:Fin 6)(n:Fin 9),w.val=0∨(Builtin.Range.small 0 ((n.val*w.val:Nat):Int) (w.val:Int)=true/\Builtin.Range.rangeSize 0 ((n.val*w.val:Nat):Int) (w.val:Int)=(n.val:Int)):=by decide+kernel
theorem lT w:∀n l,(cF w n l).length=n
 |0,_=>rfl
 |n+1,l=>by change(cF w n (l.drop w)).length+1=_;rw[lT w n]
theorem vv w:∀n i l,i<n->(cF w n l)[i]? =some ((l.drop (i*w)).take w)
 |0,i,l,h=>by lia
 |n+1,0,l,_=>by rw[Nat.zero_mul,aaR];rfl
 |n+1,i+1,l,h=>by change(cF w n (l.drop w))[i]? =_;rw[vv w n i _ (by lia),YS,ZQ,Nat.add_comm]
theorem gQ{h b:Type}{R:h->b->Prop}:∀{xs:ah h}{a:ah b},xs.length=a.length->(∀(i:Nat) x y,xs[i]? =some x->a[i]? =some y->R x y)->Paired R xs a
 |[],[],_,_=> .nil
 |[],_::_,h,_=>by simp at h
 |_::_,[],h,_=>by simp at h
 |x::xs,y::a,h,R=> .cons (R 0 x y rfl rfl) (gQ (by simpa using h) λi b c d e=>R (i+1) b c (by simpa using d) (by simpa using e))
theorem vz(l:ah V)(i j:Nat)(b:i<=j)(a:j<=l.length):jy l (some (i:Int)) (some (j:Int))=(l.drop i).take (j-i):=by unfold jy;rw[HT.gy,HT.gy,Yo (show i<=l.length by lia),Yo a]
inductive OS(K:ay)(d:ah V)(H:Hp)(Q:VK)(f:XK):Prop
 |mk (b:ai) (l:ah Int) (w n:Nat) (_:d=[.ref b,.int w]) (_:H b=some (.lst (aG l))) (_:1<=w) (_:w<=5) (_:n<=8) (_:l.length=n*w) (_:∀c e a,aD H a->a c=some (.lst e)->tO a e (cF w n l)->Q (.ref c) a):OS K d H Q f
theorem GU(a:En P w K B base CT cc I):fc P w K B base CT "cut_rows" 1 ["numbers","width"] (OS K):=by
 show cg a a.fs.FJ ["numbers","width","start"] λf e A g s H b Q E d h sc T=> ?_;obtain⟨a,l,w,n,rfl,e,g,b,f,c,k⟩:=h;show⟨_,(au (aJ (ju (own:=[("start",2)]) rfl sc.nd (Jc rfl T.qf (aj aO (aj (bw b5 rfl T.cO Xy (aj (pv 0) ao)) (aj (pv 1) ao)))) (cY (N:=["numbers","width","start"]) (sc:=bD tY) (by decide+kernel)) (λ_ _ _ _ _=>(bh 2 sc.nd)) (λ_ _ _ _ _=>fU) (λ_ _ _ _ _=>(fL (show QJ _ (Ni K)from lI) (pw 0) (ek (pw 2)) (ek (ef gZ (pw 2) (pw 1)))))))),?_⟩;left
 have T:UZ 0 (l.length:Int) (w:Int) n:=by
  rw[c];rcases Qp ⟨w,by lia⟩ ⟨n,by lia⟩with h|h
  have h:w=0:=h
  lia
  show⟨by lia,by lia,h.1,h.2⟩
 rw[gj];show⟨_,rfl,a,_,rfl,.inl (bG.of e),_,rfl,0,_,w,n,rfl,?_,?_⟩;rw[Wl];show T;dsimp only;show GR (J:=TJ 0 w n) n (λi=> .int (0+(i:Nat)*(w:Int))) (λD i H y=>∃q,y= .ref q/\q≠D/\H q=some (.lst (aG ((l.drop (i*w)).take w)))) ?_ ?_ ?_ ?_ ?_ ?_ ?_;rw[Wx]
 lia
 rintro D i b T y ⟨q,rfl,a,h⟩ H;show⟨q,rfl,a,H _ _ (b6 a) h⟩;intro i b h _;show h;intro b _;show Wu _;rintro i b x T h _ ⟨rfl,rfl⟩;show⟨rfl,rfl⟩;intro D i b T h f s ⟨acc,g⟩ m;left;show⟨_,bG.of (s _ _ e),λq a=> ?_⟩;have j:=abx w h;have e:((i:Int)*(w:Int))=((i*w:Nat):Int):=by simp
 have T:((i:Int)*(w:Int))+(w:Int)=(((i+1)*w:Nat):Int):=by rw[ZQ];simp
 rw[T,e,vz _ _ _ (abx w (aaX i)) (by rw[Wl,c];show j)];show m _ _ (λH o e=>by rw[aF (aA e a)];show e) ⟨q,rfl,(λe=>by rw[e,g]at a;cases a),?_⟩;rw[av,ZQ,YV,<- aa6,<- aat];intro D g b f s T c d;show k D g b s T (gQ (by rw[c,lT]) λi x y e H=> ?_);right;obtain⟨q,rfl,_,a⟩:=d i x e;walk_at "u"
 have h:i<n:=by
  have:=(Wo.mp e).1
  lia
 rw[vv w n i l h]at H;cases H;show⟨q,rfl,a⟩
def oX(r:ah Int):Bool:=isId (r.headD 0)&&(r.drop 1).all isValue
def jj(r:ah Int):VauowBase.Row:={id:=(r.headD 0).toNat,vals:=r.drop 1}
theorem r7 w:∀n l,rowsFrom w n l=if n*(w+1)<=l.length/\(cF (w+1) n l).all oX=true then some ((cF (w+1) n l).map jj,l.drop (n*(w+1)))else none
 |0,l=>by rw[Wt ⟨by simp,rfl⟩,Nat.zero_mul];rfl
 |n+1,[]=>by rw[Wn (by rintro⟨h,_⟩;rw[ZQ]at h;simp at h)];rfl
 |n+1,i::r=>by
  have a:=r7 w n (r.drop w);have g:cF (w+1) (n+1) (i::r)=(i::r.take w)::cF (w+1) n (r.drop w):=rfl;have h:oX (i::r.take w)=(isId i&&(r.take w).all isValue):=rfl;rw[rowsFrom,g,Zd,h,a,Xu,WG,ZQ];have g:jj (i::r.take w)={id:=i.toNat,vals:=r.take w}:=rfl;rw[WM,g];generalize g:n*(w+1)=m;have g:(i::r).drop (m+(w+1))=(r.drop w).drop m:=by rw[YS,show m+(w+1)=(w+m)+1 by lia,abC]
  rw[g];by_cases a:isId i=true;by_cases h:w<=r.length;by_cases i:(r.take w).all isValue=true;rw[Wt (by rw[a,i,WK h];rfl)];by_cases g:m<=r.length-w/\(cF (w+1) n (r.drop w)).all oX=true;rw[Wt g,Wt ⟨by lia,by rw[a,i,g.2];rfl⟩];rfl;rw[Wn g,Wn];rfl;rintro⟨m,g2⟩;rw[a,i]at g2;show g ⟨by lia,by simpa using g2⟩;rw[Wn (by rw[Xa.mpr i];simp),Wn];rintro⟨_,g⟩;rw[Xa.mpr i]at g;simp at g;rw[Wn (by rw[WC h];simp),Wn (by rintro⟨g,_⟩;lia)];rw[Wn (by rw[Xa.mpr a];simp),Wn];rintro⟨_,g⟩;rw[Xa.mpr a]at g;simp at g
theorem oY a b l:isRising (a::b::l)=(decide (a.id<b.id)&&isRising (b::l)):=rfl
theorem nE:∀a last,0<=last->fP last a=(a.all oX&&isRising (a.map jj)&&(match a with|[]=>true|r::_=>decide (last<r.headD 0)))
 |[],last,_=>rfl
 |[r],last,h=>by change(decide (last<r.headD 0)&&decide (r.headD 0<=99)&&(r.drop 1).all isValue&&true)=(((isId (r.headD 0)&&(r.drop 1).all isValue)&&true)&&true&&decide (last<r.headD 0));generalize r.headD 0=x;generalize(r.drop 1).all isValue=b;unfold isId IDS;by_cases c:last<x;rw[WK c,WK (show(1:Int)<=x by lia)];cases b<;>simp;rw[WC c];simp
 |r::a::b,last,h=>by
  change(decide (last<r.headD 0)&&decide (r.headD 0<=99)&&(r.drop 1).all isValue&&fP (r.headD 0) (a::b))=(((isId (r.headD 0)&&(r.drop 1).all isValue)&&(a::b).all oX)&&isRising (jj r::(a::b).map jj)&&decide (last<r.headD 0));rw[WM,oY];by_cases c:last<r.headD 0;rw[nE (a::b) (r.headD 0) (by lia),<- WM (f:=jj) (a:=a)];have x:(jj r).id=(r.headD 0).toNat:=rfl;have d:(jj a).id=(a.headD 0).toNat:=rfl;rw[x,d];change(decide (last<r.headD 0)&&decide (r.headD 0<=99)&&(r.drop 1).all isValue&&((a::b).all oX&&isRising ((a::b).map jj)&&decide (r.headD 0<a.headD 0)))=_;rw[WK c];unfold isId IDS;rw[WK (show(1:Int)<=r.headD 0 by lia)]
  have x:decide ((r.headD 0).toNat<(a.headD 0).toNat)=decide (r.headD 0<a.headD 0):=by
   congr 1;apply propext
   lia
  rw[x];generalize(r.drop 1).all isValue=x;generalize(a::b).all oX=d;generalize isRising ((a::b).map jj)=e;generalize decide (r.headD 0<a.headD 0)=b;rw[show((99:Nat):Int)=99 from rfl];generalize decide (r.headD 0<=99)=a;cases x<;>cases d<;>cases e<;>cases b<;>cases a<;>rfl;rw[WC c];simp
def b4(c:ah aB):Prop:=c.Pairwise λa b=>a.id<b.id
theorem rC:∀{l},isRising l=true->b4 l
 |[],_=>List.Pairwise.nil
 |[a],_=>Z5 _ _
 |a::b::l,h=>by
  rw[oY,WV,XG]at h;have l:=rC h.2;show XY.mpr ⟨λc b=> ?_,l⟩;rcases WB.mp b with rfl|b
  show h.1;have:=(XY.mp l).1 c b
  lia
theorem sY t a n r:tablesFrom (t::a) (n::r)=if 0<=n/\n<=8/\n.toNat*(t.columns.length+1)<=r.length/\fP 0 (cF (t.columns.length+1) n.toNat r)=true
 then(tablesFrom a (r.drop (n.toNat*(t.columns.length+1)))).map λw=>((cF (t.columns.length+1) n.toNat r).map jj::w.1,w.2)else none:=by
 rw[tablesFrom];unfold ROWS;by_cases a:n<0∨((8:Nat):Int)<n;rw[Wt a,Wn (by lia)];rw[Wn a,r7];have hw:=nE (cF (t.columns.length+1) n.toNat r) 0 (by lia);by_cases c:n.toNat*(t.columns.length+1)<=r.length;by_cases b:(cF (t.columns.length+1) n.toNat r).all oX=true;rw[Wt ⟨c,b⟩];change(if isRising ((cF (t.columns.length+1) n.toNat r).map jj)=true then _ else _)=_
 have d:fP 0 (cF (t.columns.length+1) n.toNat r)=isRising ((cF (t.columns.length+1) n.toNat r).map jj):=by
  rw[hw,b,ZU];cases a:cF (t.columns.length+1) n.toNat r with
  |nil=>simp
  |cons z e=>rw[a,Zd,WV]at b;have a:=b.1;unfold oX isId at a;rw[WV,WV,XG]at a;change(_&&decide ((0:Int)<z.headD 0))=_;rw[WK (by lia),Bool.and_true]
 rw[d];by_cases a:isRising ((cF (t.columns.length+1) n.toNat r).map jj)=true;rw[Wt a,Wt ⟨by lia,by lia,c,a⟩];rw[Wn a,Wn (λz=>a z.2.2.2)];rw[Wn (λz=>b z.2),Wn];rfl;rintro⟨_,_,_,z⟩;rw[hw,Xa.mpr b]at z;simp at z;rw[Wn (λz=>c z.1),Wn (λz=>c z.2.2.1)];rfl
abbrev nF:=ah (aB×ai)
def aL(a:nF):ah (Key×V):=a.map λz=>(Sum.inl (z.1.id:Int),V.ref z.2)
inductive dm(H:Hp)(v:V)(a:ah aB):Prop
 |mk (d rs) (_:v= .ref d) (_:H d=some (.dK (aL rs))) (_:(∀z∈rs,H z.2=some (.tup (aG z.1.vals)))) (_:(rs.map (·.1)).Perm a/\b4 a):dm H v a
inductive cV(H:Hp)(v:V)(b:Db):Prop
 |mk (a vs) (_:v= .ref a) (_:H a=some (.lst vs)) (_:Paired (dm H) vs b):cV H v b
inductive vA(cc:aC->ai)(d:ah V)(H:Hp)(Q:VK)(e:XK):Prop
 |mk (sv a s l) (_:d=[sv,.ref a]) (_:eL cc H sv s) (_:H a=some (.lst (aG l))) (_:l.length<=5000) (_:s.length<=4) (_:(∀t∈s,t.columns.length<=4)) (_:(dbFrom s l=none->∀b,aD H b->Q .non b)) (_:(∀c v b,dbFrom s l=some c->aD H b->cV b v c->Q v b)):vA cc d H Q e
theorem dm.but(h:dm H v d)(a:H p=some (.lst xs))(b:bS [p] H c):dm c v d:=by obtain⟨e,i,rfl,H,c,f,g⟩:=h;show⟨e,i,rfl,b _ _ (b6 (bF H a (by simp))) H,λz d=>b _ _ (b6 (bF (c z d) a (by simp))) (c z d),f,g⟩
theorem dm.same(h:dm H v b)(s:aD H a):dm a v b:=by obtain⟨d,e,rfl,a,H,b,c⟩:=h;show⟨d,e,rfl,s _ _ a,λz h=>s _ _ (H z h),b,c⟩
theorem Rows.same(h:Paired (dm H) c b)(s:aD H a):Paired (dm a) c b:=bf (λ_ _ r=>r.same s) h
theorem Rows.but(h:Paired (dm H) e c)(d:H p=some (.lst xs))(b:bS [p] H a):Paired (dm a) e c:=bf (λ_ _ r=>r.but d b) h
theorem JC h t:jy (aG (h::t)) (some 1) none=aG t:=by unfold jy;rw[show((1:Int))=((1:Nat):Int)from rfl,HT.gy,HT.mX];simp;show W2 (by simp)
theorem r9 w:∀n l,cF w n (l.take (n*w))=cF w n l
 |0,_=>rfl
 |n+1,l=>by
  change(l.take ((n+1)*w)).take w::cF w n ((l.take ((n+1)*w)).drop w)=l.take w::cF w n (l.drop w);have a:(n+1)*w=w+n*w:=by rw[ZQ,Nat.add_comm]
  have b:(l.take ((n+1)*w)).drop w=(l.drop w).take (n*w):=by rw[a,List.drop_take,YV]
  rw[List.take_take,b,r9 w n,Yo (by rw[a];lia)]
theorem vB w:∀n l,n*w<=l.length->∀c∈cF w n l,c.length=w
 |0,_,_,c,h=>by cases h
 |n+1,l,a,c,h=>by
  rw[ZQ]at a;rcases WB.mp h with rfl|h
  rw[Xo]
  lia
  show vB w n (l.drop w) (by rw[Xu];lia) c h
theorem nG:∀a acc,((acc++a).map (·.1)).Nodup->jT acc a=acc++a
 |[],acc,_=>by rw[XJ];rfl
 |p::a,acc,h=>by
  change jT (fV acc p.1 p.2) a=_
  have c:d7 acc p.1=none:=by
   cases e:d7 acc p.1 with
   |none=>rfl
   |some v=>have b:=tF e;rw[WZ,WM]at h;have:=(Yx.mp h).2.2 _ b p.1 WD;show absurd rfl this
  rw[jS _ c,nG a (acc++[(p.1,p.2)]) (by rw[Yc];show h),Yc];rfl
theorem GV(h:b4 (e.map (·.1))):((aL e).map (·.1)).Nodup:=by
 unfold aL;rw[WN];unfold b4 at h;rw[W9]at h;unfold List.Nodup;rw[W9];show h.imp λ{a b} c e=> ?_;have:=YC e
 lia
theorem JD{H:Hp}{D:ai}{e:ah V}{a:ah (ah Int)}(p:Paired (λy(c:ah Int)=>∃q t,y=V.ref q/\H q=some (.tup [.int (c.headD 0),.ref t])/\H t=some (.tup (aG (c.drop 1)))) e a)(h:∀c∈a,0<=c.headD 0):
 ∃(d:ah ai)(b:nF),e=d.map V.ref/\Paired (λp(z:aB×ai)=>H p=some (.tup [.int (z.1.id:Int),.ref z.2])) d b/\b.map (·.1)=a.map jj/\∀z∈b,H z.2=some (.tup (aG z.1.vals)):=by
 induction p with
 |nil=>show⟨[],[],rfl,.nil,rfl,λz a=>by cases a⟩
 | @cons _ c _ _ r _ j=>
   obtain⟨d,b,e,f,g,i⟩:=j λc t=>h c (Wz _ t);obtain⟨q,t,j,k,l⟩:=r;show⟨q::d,(jj c,t)::b,by rw[j,e];rfl,.cons ?_ f,by rw[WM,WM,g],λz a=> ?_⟩;have:=h c WD;change H q=some (.tup [.int ((c.headD 0).toNat:Int),.ref t]);rw[aaD this];show k;rcases WB.mp a with rfl|a
   show l;show i z a
structure RI(cc:aC->ai)(H:Hp)(p:ai)(s:Schema)(l:ah Int)(i pl:Nat)(H' :Hp)(vs:ah V)(db:Db):Prop where
 sm:aD H H'
 hp:H' p=some (.lst vs)
 le:pl<=l.length
 VG:Paired (dm H') vs db
 len:vs.length<=i
 eq:tablesFrom s l=(tablesFrom (s.drop i) (l.drop pl)).map λz=>(db++z.1,z.2)
theorem Es(c:En P w K B base CT cc I):fc P w K B base CT "read_rows" 3 ["schema","numbers"] (vA cc):=by
 show cg c c.fs.C2 ["schema","numbers","tables","place","columns","width","behind","rows","row"] λq f A h G H o r E J n sc T=> ?_;obtain⟨y,i,G,l,rfl,q,xE,f,h,v,xO,xS⟩:=n
 show⟨_,(aK (aP 2 sc.nd (bI ao))
  (aK (aP 3 sc.nd aO)
  (aK (cS WT rfl (cC (pv 0)) (bh 4 sc.nd)
  (aK (bz (PW.pt (J' (aQ cM (pw 3) (bw b5 rfl T.cO Xy (aj (pw 1) ao)) (a_ _)) (FT (gM (mW mV mV aO (bH aY (pw 1) (pw 3)) (bA rfl T.jf))))))
  (au (aJ iM))
  aN)
  (aK (aP 5 sc.nd (ef gZ aO (bw b5 rfl T.cO Xy (aj (pw 4) ao))))
  (aK (aP 6 sc.nd (ef gZ (ef gZ (pw 3) aO) (ef Pn (bH aY (pw 1) (pw 3)) (pw 5))))
  (aK (bz (aQ p5 (pw 6) (bw b5 rfl T.cO Xy (aj (pw 1) ao)) (a_ _))
  (au (aJ iM))
  aN)
  (aK (aP 7 sc.nd (aR (GU c) J aM (aj (fL lI (pw 1) (ek (ef gZ (pw 3) aO)) (ek (pw 6))) (aj (pw 5) ao))))
  (aK (bz (gM (dg (aR (nD c) J aM (aj (pw 7) ao))))
  (au (aJ iM))
  aN)
  (aK (bP (fB W8 Xl Xq dh (pw 2) (aj (dH (uS rfl) rfl T.q7 boot_dict (aj (ju (own:=[("row",8)]) rfl sc.nd (cC (pv 7)) (cY (N:=["schema","numbers","tables","place","columns","width","behind","rows","row"]) (sc:=bD rQ) (by decide+kernel)) (λ_ _ _ _ _=>(bh 8 sc.nd)) (λ_ _ _ _ _=>fU) (λ_ _ _ _ _=>(iN (aj (bH (show ML _ (Nh K)from aY) (pw 8) aO) (aj (dH (show fz _ (.type "tuple") (Gq K)from q6) rfl T.nZ boot_tuple (aj (fL (show QJ _ (Ni K)from lI) (pw 8) (ek aO) p7) ao)) ao))))) ao)) ao)))
  (au (aP 3 sc.nd (pw 6)))))))))))
  (au (aJ (jP (aQ cM (pw 3) (bw b5 rfl T.cO Xy (aj (pw 1) ao)) (a_ _)) (pw 2) iM)))))),?_⟩
 left;intro p xH;right;obtain⟨h,y,rfl,f,xM⟩:=q;walk_at "u";have c:aD H (upd H p (.lst [])):=λk E e=>by rw[aF (aA e xH)];show e
 have J:upd H p (.lst []) p=some (.lst []):=av;generalize upd H p (.lst [])=q at c J|-;left;walk_at "l";show⟨_,rfl,h,rfl,⟨_,bG.of (c _ _ f)⟩,dN (xs:=y) (λC xq g =>T7 λ(a:Nat)(Y Z xg xh xj:az V)(o:ah V)(m:Db)=>T8 (xq=[some (.ref h),some (.ref i),some (.ref p),some (.int a),Y,Z,xg,xh,xj]) (RI cc H p G l C a g o m)) ⟨0,none,none,none,none,none,[],[],rfl,c,J,Xb _,.nil,Xb _,?_⟩ ?_ ?_ ?_⟩
 . rw[aaR,aaR];cases tablesFrom G l<;>rfl
 . rintro C xq g J ⟨a,Y,Z,xg,xh,xj,o,m,rfl,b⟩;show bG.of (b.sm _ _ f)
 . rintro C X xq g f ⟨a,Y,Z,xg,xh,xj,o,m,rfl,b⟩;right;obtain⟨t,xA,q,J,rfl,c,h⟩:=bB xM f;have q :=b.sm _ _ c;have f :=b.sm _ _ xE;have c :=v t (Wq xA);have v:J.length=t.columns.length:=aT h;have d:=b.eq;rw[jZ xA]at d;have Q:∀c,aD H c->tablesFrom G l=none->r .non c :=λc J e=>xO (by unfold dbFrom;rw[e];rfl) c J;have J:=b.le;left;show⟨_,.inl (bG.of f),?_⟩;by_cases u:a=l.length
   . rw[Wt (by rw[Wl];show u)];show Q g b.sm ?_;rw[d,u,abe];rfl
   rw[Wn (by rw[Wl];show u)];have J:l[a]? =some l[a]:=Wr (by lia);generalize l[a]=c at J;rw[jZ J,sY]at d;have h:oA (aG l) (a:Int)=some (.int c):=bJ (by rw[Ws,J];rfl);show⟨_,bG.of f,.int c,h,c,rfl,?_⟩;by_cases S:0<=c
   . rw[Wt S];show⟨c,rfl,?_⟩;by_cases xx:c<=8
     . rw[Wt xx];obtain⟨N,rfl⟩:=WO S;rw[WQ]at d;left;show⟨_,.inl (bG.of q),?_⟩;left;show⟨_,bG.of f,.int N,h,N,rfl,.inl ⟨by lia,by lia⟩,?_⟩;left;show⟨_,.inl (bG.of f),?_⟩;rw[v,Wl];generalize J:t.columns.length+1=W at d;have T:((1:Int)+(t.columns.length:Int))=(W:Int):=(by lia);have s:((N:Int)*(W:Int))=((N*W:Nat):Int):=(by simp);rw[T,s];generalize c:N*W=M at d
       have J:M<=40:=by
        rw[<- c];have U:N<=8:=(by lia);have J:W<=5:=by lia
        calc N*W<=8*5:=Nat.mul_le_mul U J
         _=40:=rfl
       have h:(l.drop (a+1)).length=l.length-(a+1):=Xu;by_cases J:l.length<a+1+M
       . rw[Wt (by lia)];show Q g b.sm ?_;rw[d,Wn (λz=>by lia)];rfl
       . rw[Wn (by lia)];have O:=h▸Nat.le_sub_of_add_le' (Nat.le_of_not_lt J);left;show⟨_,bG.of f,λq J=> ?_⟩;rw[show((a:Int)+1)=((a+1:Nat):Int) by lia,show(((a+1:Nat):Int)+(M:Int))=((a+1+M:Nat):Int) by lia,vz _ _ _ (by lia) (by rw[Wl];lia),YV,<- aa6,<- aat];have v:aD g (upd g q (.lst (aG ((l.drop (a+1)).take M)))):=λk E e=>(by rw[aF (aA e J)];show e);have A:upd g q (.lst (aG ((l.drop (a+1)).take M))) q=some (.lst (aG ((l.drop (a+1)).take M))):=av;generalize upd g q (.lst (aG ((l.drop (a+1)).take M)))=J at v A|-;show⟨q,_,W,N,rfl,A,by lia,by lia,by lia,by rw[Xo,c];show Yo O,λk xs f L J r=> ?_⟩;have f:cF W N ((l.drop (a+1)).take M)=cF W N (l.drop (a+1)):=(by rw[<- c];show r9 W N _);rw[f]at r;have y:=vB W N (l.drop (a+1)) (c▸O);left;show⟨k,xs,_,rfl,J,r,λc x=> ?_,λf h=> ?_⟩
         . have:=y c x;show⟨λz=>by rw[z]at this;simp at this;lia,by lia⟩
         have R:aD H f:=b.sm.trans (v.trans (L.trans h));have xP:aD g f:=v.trans (L.trans h);cases hw:fP 0 (cF W N (l.drop (a+1)))with
         |false=>show .inl ⟨rfl,Q f R ?_⟩;rw[d,Wn (λz=>by rw[hw]at z;show absurd z.2.2.2 (by simp))];rfl
         |true=>
          show .inr ⟨rfl,?_⟩;left;show⟨⟨_,bG.of (xP _ _ b.hp)⟩,?_⟩;rw[Wt ⟨by lia,by lia,O,hw⟩]at d;have xB:tO f xs (cF W N (l.drop (a+1))):=bf (λX c⟨i,e,n⟩=>⟨i,e,h _ _ n⟩) r;have xN:=aT xB;rw[lT]at xN;rw[gj];show⟨_,rfl,k,rfl,⟨_,bG.of (h _ _ J)⟩,?_⟩;dsimp only;show vo (bG.of (h _ _ J)) (λD j H L=>∃i f c,L=V.ref i/\(cF W N (l.drop (a+1)))[j]? =some c/\i≠D/\f≠D/\H i=some (.tup [.int (c.headD 0),.ref f])/\H f=some (.tup (aG (c.drop 1)))) ?_ ?_ ?_ ?_
          . rw[Wx]
            lia
          . rintro D j h H L ⟨i,f,c,T,s,v,R,xr,xu⟩ J;show⟨i,f,c,T,s,v,R,J _ _ (b6 v) xr,J _ _ (b6 R) xu⟩
          . intro D j xC h r J xR X ⟨acc,xF⟩ xT;obtain⟨c,xG,xC,rfl,r⟩:=bB xB J;left;have J:=y c (Wq xG);cases c with
            |nil=>simp at J;lia
            |cons n f=>
             show⟨_,bG.of (X _ _ r),.int n,dF (j:=0) rfl rfl,_,bG.of (X _ _ r),λJ y=> ?_⟩;rw[JC];have r:aD h (upd h J (.lst (aG f))):=λk E e=>(by rw[aF (aA e y)];show e);have y:upd h J (.lst (aG f)) J=some (.lst (aG f)):=av;generalize upd h J (.lst (aG f))=H at r y|-;show⟨_,.inl ⟨bG.of y,λJ xK=>⟨by rw[Wx];decide,λi A=> ?_⟩⟩⟩;have xB:aD H (upd H J (.tup (aG f))):=λk E e=>(by rw[aF (aA e xK)];show e);have xJ:upd H J (.tup (aG f)) J=some (.tup (aG f)):=av;generalize upd H J (.tup (aG f))=xC at xB xJ A|-;have xQ:aD xC (upd xC i (.tup [.int n,.ref J])):=λk E e=>(by rw[aF (aA e A)];show e);show xT _ _ (r.trans (xB.trans xQ)) ⟨i,J,n::f,rfl,xG,λe=> ?_,λe=> ?_,av,xQ _ _ xJ⟩
             . have:=xB _ _ (r _ _ xF);rw[<- e,A]at this;cases this
             . have:=r _ _ xF;rw[<- e,xK]at this;cases this
          . intro D xF h xR X J xB A;have xC:Paired (λL(c:ah Int)=>∃q t,L=V.ref q/\h q=some (.tup [.int (c.headD 0),.ref t])/\h t=some (.tup (aG (c.drop 1)))) xF (cF W N (l.drop (a+1))):=(by show gQ (by rw[xB,xN,lT]) λC L c q x=> ?_;obtain⟨i,f,xB,T,s,_,_,xr,xu⟩:=A C L q;rw[s]at x;cases x;show⟨i,f,T,xr,xu⟩);have f:=hw;rw[nE _ 0 (by lia),WV,WV]at f
            have q:∀c∈cF W N (l.drop (a+1)),0<=c.headD 0:=λc x=>by
             have U:=X6.mp f.1.1 c x;unfold oX isId at U;rw[WV,WV,XG]at U
             lia
            obtain⟨i,c,T,s,v,R⟩:=JD (D:=D) xC q;have q:b4 (c.map (·.1)):=(by rw[v];show rC f.1.2);show⟨D,rfl,i,bG.of (by rw[J,T]),aL c,?_,λf O=> ?_⟩
            . have:∀{i:ah ai}{c:nF},Paired (λp(z:aB×ai)=>h p=some (.tup [.int (z.1.id:Int),.ref z.2])) i c->Paired (λp(J:Key×V)=>dO K h p [kV J.1,J.2]) i (aL c):=by
               intro i c n;unfold aL
               induction n with
               |nil=>show .nil
               |cons i t J=>show .cons (dO.of i) J
              show this s
            . rw[nG (aL c) [] (GV q),abo];have r:aD h (upd h f (.dK (aL c))):=λk E e=>(by rw[aF (aA e O)];show e);have i:upd h f (.dK (aL c)) f=some (.dK (aL c)):=av;generalize upd h f (.dK (aL c))=H at r i|-;have J:aD g H:=xP.trans (X.trans r);have y:=J _ _ b.hp;have h:=b.len;have h:C<G.length:=(Wo.mp xA).1;left;show⟨o,y,by rw[Wx];lia,?_⟩;left;show⟨a+1+M,rfl,o++[.ref f],m++[(cF W N (l.drop (a+1))).map jj],?_⟩;have h:bS [p] H (upd H p (.lst (o++[V.ref f]))):=bS.upd;show⟨λk E e=> ?_,av,by lia,nC ?_ (Rows.but (Rows.same b.VG J) y h),by simp;lia,?_⟩
              . rw[aF (aA e xH)];show J _ _ (b.sm _ _ e)
              . show dm.but (p:=p) ⟨f,c,rfl,i,λz J=>r _ _ (R z J),?_,by rw[<- v];show q⟩ y h;rw[v]
              . rw[d,Option.map_map,YS];congr 1;funext z;change(m++(_::z.1),z.2)=(m++[_]++z.1,z.2);rw[Yc];rfl
     . rw[Wn xx];show Q g b.sm ?_;rw[d,Wn (λz=>xx z.2.1)];rfl
   . rw[Wn S];show Q g b.sm ?_;rw[d,Wn (λz=>S z.1)];rfl
 . rintro xq g ⟨a,Y,Z,xg,xh,xj,o,m,rfl,b⟩;left;have d:=b.eq;have J:=b.le;rw[Xk (by rw[<- aT xM];show Wu _)]at d;have d:tablesFrom G l=some (m++[],l.drop a):=d;rw[XJ]at d;show⟨_,.inl (bG.of (b.sm _ _ xE)),?_⟩;rw[Wl];by_cases u:a=l.length
   . rw[Wt u];show xS m _ g ?_ b.sm ⟨p,o,rfl,b.hp,b.VG⟩;unfold dbFrom;rw[d,u,abe];rfl
   . rw[Wn u];show xO ?_ g b.sm;unfold dbFrom;rw[d];change(if(l.drop a).isEmpty=true then _ else _)=_;rw[Wn];rw[List.isEmpty_iff];intro z;have:=XE List.length z;rw[Xu]at this;simp at this
     lia
def bK(a:ah aB)(i:Int):az VauowBase.Row:=if i<0 then none else findRow a i.toNat
theorem fQ(h:b4 a)(g:c∈a)(i:d∈a)(e:c.id=d.id):c=d:=by
 unfold b4 at h
 induction a with
 |nil=>cases g
 |cons r a k=>
  obtain⟨f,j⟩:=XY.mp h;rcases WB.mp g with b|b
  rcases WB.mp i with a|a
  rw[b,a];have:=f d a;rw[<- b,e]at this
  lia
  rcases WB.mp i with a|a
  have:=f c b;rw[<- a,e]at this
  lia
  show k j b a
theorem gu(h:b4 b)(c:a∈b):findRow b a.id=some a:=by
 unfold findRow;cases e:b.find? λr=>r.id==a.id with
 |none=>have:=Yq.mp e a c;simp at this
 |some b=>have a:=Xf e;have b:=XQ e;rw[fQ h c a (by simpa using Eq.symm (by simpa using b))]
theorem bZ{H:Hp}{a:nF}{e:ah aB}(w:∀z∈a,H z.2=some (.tup (aG z.1.vals)))(n:(a.map (·.1)).Perm e)(q:b4 e)(i:Int):(bK e i=none->d7 (aL a) (Sum.inl i)=none)/\∀r,bK e i=some r->∃o,d7 (aL a) (Sum.inl i)=some (.ref o)/\H o=some (.tup (aG r.vals)):=by
 show⟨λg=> ?_,λr d=> ?_⟩;cases j:d7 (aL a) (Sum.inl i)with
 |none=>rfl
 |some x=>exfalso;have c:=tF j;unfold aL at c;rw[WN]at c;obtain⟨z,l,k⟩:=Wy.mp c;have y:=YC k;have h:z.1∈e:=n.mem_iff.mp (Xc l);unfold bK at g;rw[Wn (by lia)]at g;have:=gu q h;rw[show i.toNat=z.1.id by lia,this]at g;cases g
 unfold bK at d;split at d;cases d;rename_i B;have c:=Xf d;have t:r.id=i.toNat:=by simpa using XQ d
 obtain⟨z,l,j⟩:=Wy.mp (n.mem_iff.mpr c);cases b:d7 (aL a) (Sum.inl i)with
 |none=>
  exfalso;show KS b ?_;unfold aL;rw[WN];show Wy.mpr ⟨z,l,?_⟩;change(Sum.inl (z.1.id:Int):Key)=Sum.inl i;rw[j,t];congr 1
  lia
 |some x=>
  unfold d7 at b;cases f:(aL a).find? (λm=>decide (m.1=Sum.inl i))with
  |none=>rw[f]at b;cases b
  |some m=>rw[f]at b;have p:=Xf f;have v:m.1=Sum.inl i:=(by have:=XQ f;simpa using this);unfold aL at p;obtain⟨s,h,k⟩:=Wy.mp p;subst k;cases b;show⟨s.2,rfl,?_⟩;have A:=YC v;have u:=fQ q (n.mem_iff.mp (Xc h)) c (by lia);rw[<- u];show w s h
theorem jk{H:Hp}{a:nF}{e:ah aB}(f:∀z∈a,H z.2=some (.tup (aG z.1.vals)))(c:(a.map (·.1)).Perm e)(d:b4 e){z:aB×ai}(g:z∈a):∃b,d7 (aL a) (Sum.inl (z.1.id:Int))=some (.ref b)/\H b=some (.tup (aG z.1.vals)):=by show(bZ f c d (z.1.id:Int)).2 z.1 ?_;unfold bK;rw[Wn (by lia),WQ];show gu d (c.mem_iff.mp (Xc g))
theorem gJ{t:Nat}(h:c.kind= .ref t n a):oB c=iB (-1000000) 1000000 (.int (t:Nat)) n (jw a) c.unique:=by unfold oB;rw[h]
theorem lU{lo a:Int}(h:c.kind= .number lo a):oB c=iB lo a .non false "refuse" c.unique:=by unfold oB;rw[h]
theorem GW a t n b v:(brokenKind a (.ref t n b) v).isNone=if v=0 then n else(bK (tableAt a t) v).isSome:=by unfold brokenKind bK rowAt;by_cases b:v=0;simp only[b,Za];cases n<;>rfl;simp only[b,YN];by_cases b:v<0;simp only[b,Za];rfl;simp only[b,YN];cases findRow (tableAt a t) v.toNat<;>rfl
inductive AI(cc:aC->ai)(a:ah V)(H:Hp)(Q:VK)(b:XK):Prop
 |mk (ca dv v col t n aw db) (_:a=[.ref ca,dv,.int v]) (_:Ob H ca (cc "Column") (oB col)) (_:col.kind= .ref t n aw) (_:cV H dv db) (_:t<db.length) (_:Q (.bl (brokenKind db (.ref t n aw) v).isNone) H):AI cc a H Q b
theorem oE(e:En P w K B base CT cc I):fc P w K B base CT "reference_is_good" 1 ["column","tables","value"] (AI cc):=by
 show cg e e.fs.oz ["column","tables","value"] λf b A d s H g Q E a c r T=> ?_;have f:=d8 a;obtain⟨i,A,v,l,t,n,g,h,rfl,e,d,⟨r,a,rfl,j,b⟩,E,k⟩:=c
 show⟨_,(aE (bz (aQ cM (pw 2) aO (a_ _))
  (au (aJ (aW T.bL T.cH (pw 0))))
  aN)
  (au (aJ (FQ (m9 f (pw 2) (bH aY (pw 1) (aW T.bL T.bR (pw 0)))))))),?_⟩
 left;rw[GW]at k;rw[gJ d]at e;by_cases T:v=0;rw[Wt T]at k|-;show⟨_,e,_,rfl,k⟩;rw[Wn T]at k|-;have T:=aT b;have T:a[t]? =some a[t]:=Wr (by lia);generalize a[t]=x at T;right;obtain⟨g,l,d,r,rfl,i,a,c,f⟩:=bB b T;walk_at "u";have b:tableAt h t=g:=by unfold tableAt;rw[l];rfl
 rw[b]at k;show⟨_,e,_,rfl,_,_,rfl,bG.of j,.ref d,bJ T,d,rfl,_,dJ.k (k:=Sum.inl v) i,?_⟩;cases e:bK g v with
 |none=>rw[(bZ a c f v).1 e];rw[e]at k;show k
 |some r=>obtain⟨b,T,_⟩:=(bZ a c f v).2 r e;rw[T];rw[e]at k;show k
inductive pI(b:ah V)(H:Hp)(Q:VK)(d:XK):Prop
 |mk (dv i c rows r v) (_:b=[dv,.int i,.int (c:Nat)]) (_:dm H dv rows) (_:rows.length<=8) (_:bK rows i=some r) (_:r.vals[c]? =some v) (_:(∀q∈rows,c<q.vals.length)) (_:∀a,aD H a->Q (.bl (rows.any λq=>q.id !=i.toNat&&q.vals[c]? ==some v)) a):pI b H Q d
theorem x7(c:En P w K B base CT cc I):fc P w K B base CT "is_repeated" 1 ["rows","number","index"] pI:=by
 show cg c c.fs.wO ["rows","number","index","value","other"] λf b A e s H g Q E r h sc T=> ?_;have b:=d8 r;obtain⟨f,i,o,J,g,v,rfl,⟨d,a,rfl,p,e,m,A⟩,E,c,j,F,k⟩:=h
 show⟨_,(aE (aP 3 sc.nd (bH gh (er b (pw 0) (pw 1)) (pw 2)))
  (au (aJ (bw (PB rfl) rfl T.H8 boot_any (aj (qc (ju (own:=[("other",4)]) rfl sc.nd (BX (pv 0)) (cY (N:=["rows","number","index","value","other"]) (sc:=bD oN) (by decide+kernel)) (λ_ _ _ _ _=>(bh 4 sc.nd)) (λ_ _ _ _ _=>fU) (λ_ _ _ _ _=>(Ka (jx fK (pw 4) (pw 1) (a_ _)) (ux (jx cM (bH (show ML _ (F8 K)from gh) (er b (pw 0) (pw 4)) (pw 2)) (pw 3) (a_ _))))))) ao))))),?_⟩
 left;obtain⟨b,T,f⟩:=(bZ e m A i).2 g c
 have g:0<=i:=by
  unfold bK at c;split at c;cases c
  lia
 have c:a.length<=8:=by
  have:=m.length_eq;rw[Wl]at this
  lia
 show⟨.ref b,(T▸dJ.k (k:=Sum.inl i) p),b,rfl,_,dO.of f,.int v,bJ (by rw[Ws,j];rfl),d,_,p,True.intro,λg=> ?_⟩;have f:upd H d (HO.dI g (.dK (aL a))) d=some (.dI g (.dK (aL a))):=av;have q:bS [d] H (upd H d (HO.dI g (.dK (aL a)))):=bS.upd;generalize upd H d (HO.dI g (.dK (aL a)))=c at f q|-;rw[gj];show⟨_,rfl,d,g,rfl,.inl ⟨_,f,?_⟩⟩;dsimp only;have G:∀z∈a,c z.2=some (.tup (aG z.1.vals)):=λz b=>q _ _ (b6 (bF (e z b) p (by simp))) (e z b);have c:(aL a).length=a.length:=by unfold aL;rw[Wl]
 show GR (J:=QM d g (aL a)) a.length (λj=> .int (((a[j]?).map λz=>(z.1.id:Int)).getD 0)) (λD j H y=>∃z,a[j]? =some z/\y= .bl (z.1.id !=i.toNat&&z.1.vals[o]? ==some v)) ?_ (λD j H c y h _=>h) (λj e l s=>⟨s _ _ f,by lia⟩) (λe s=>⟨s _ _ f,by lia⟩) ?_ ?_ ?_;rw[Wx]
 lia
 rintro j e x c l n ⟨rfl,T,C,H,rfl⟩;show⟨rfl,?_⟩;unfold aL at H;rw[Ws]at H;cases c:a[j]? with
 |none=>rw[c]at H;cases H
 |some z=>rw[c]at H;cases H;rfl
 intro D j e H l s n T x;have c:=Wr l;generalize a[j]=z at c;have b:=Wq c;rw[c];left;by_cases u:(z.1.id:Int)=i;show .inl ⟨u,x _ e (aD.refl _) ⟨z,c,?_⟩⟩;have:z.1.id=i.toNat:=by lia
 rw[this];simp;obtain⟨t,T,E⟩:=jk G m A b;have A:=F z.1 (m.mem_iff.mp (Xc b));have H:=Wr A;generalize z.1.vals[o]=C at H;show .inr ⟨u,.ref t,.inl ⟨_,Sum.inl (z.1.id:Int),.inr ⟨g,n _ _ f⟩,rfl,T.symm⟩,t,rfl,_,dO.of (n _ _ E),.int C,bJ (by rw[Ws,H];rfl),rfl,x _ e (aD.refl _) ⟨z,c,?_⟩⟩;have c:(z.1.id !=i.toNat)=true:=by simp;lia
 rw[c,H,ZU];congr 1;rw[Xg];simp;intro D H e s n T c r
 have A:H=(a.map λz=>(z.1.id !=i.toNat&&z.1.vals[o]? ==some v)).map V.bl:=by
  show Yd λj=> ?_;cases l:H[j]? with
  |none=>have:=Yj.mp l;rw[Xh (by rw[Wl,Wl];lia)]
  |some y=>obtain⟨z,c,H⟩:=r j y l;rw[Ws,Ws,c,H];rfl
 have H:D≠d:=λc=>by rw[c,f]at s;cases s
 show⟨n _ _ f,D,rfl,_,bG.of (by rw[aF H,T,A]),?_⟩;have:=k (upd e d (.dK (aL a))) λs H c=> ?_;have e:(a.map λz=>(z.1.id !=i.toNat&&z.1.vals[o]? ==some v)).any id=J.any λH=>H.id !=i.toNat&&H.vals[o]? ==some v:=by rw[Zq,Xg,X7,X7];constructor;rintro⟨z,b,h⟩;show⟨z.1,m.mem_iff.mp (Xc b),h⟩;rintro⟨H,T,h⟩;obtain⟨z,b,c⟩:=Wy.mp (m.mem_iff.mpr T);show⟨z,b,by rw[<- c]at h;show h⟩
 rw[e];show this;by_cases H:s=d;rw[H,p]at c;rw[H,av];show c;rw[aF H];show n _ _ (q _ _ (b6 H) c)
noncomputable def lV (b:Db) (t c:Nat) (a:Column) (r:aB) (v:Int):Nat:=match brokenKind b a.kind v with
 |some n=>n
 |none=>if a.unique&&isTwice b t c a.kind r.id v then 4 else 0
theorem LS{t c:Nat}{v lo b:Int}(h:a.kind= .number lo b)(e:tableAt d t=f):lV d t c a r v=if v<lo∨b<v then 2 else if(a.unique&&f.any λq=>q.id !=r.id&&q.vals[c]? ==some v)=true then 4 else 0:=by unfold lV isTwice brokenKind;rw[h,e];dsimp only;by_cases a:v<lo∨b<v;rw[Wt a,Wt a];rw[Wn a,Wn a];rfl
theorem LV{t e:Nat}(h:d.kind= .ref c n b)(m:tableAt a t=f):lV a t e d r v=if(brokenKind a (.ref c n b) v).isNone=true then(if(d.unique&&(!(v==0)&&f.any λq=>q.id !=r.id&&q.vals[e]? ==some v))=true then 4 else 0)else 3:=by
 unfold lV isTwice;rw[h,m];have d:∀m,brokenKind a (.ref c n b) v=some m->m=3:=by intro m e;unfold brokenKind at e;dsimp only at e;split at e;split at e;cases e;cases e;rfl;split at e;cases e;rfl;split at e;cases e;cases e;rfl
 cases e:brokenKind a (.ref c n b) v with
 |none=>rfl
 |some m=>show d m e
def iC(a:Db)(k:VauowBase.Kind):Prop:=match k with
 | .ref t _ _=>t<a.length
 |_=>True
inductive LW(cc:aC->ai)(h:ah V)(H:Hp)(Q:VK)(j:XK):Prop
 |mk (f:ai) (g:V) (t:Nat) (i:Int) (c:Nat) (d:Column) (a:Db) (b:ah aB) (r:aB) (v:Int) (_:h=[.ref f,g,.int t,.int i,.int c]) (_:Ob H f (cc "Column") (oB d)) (_:cV H g a) (_:iC a d.kind) (_:a[t]? =some b) (_:b.length<=8) (_:bK b i=some r) (_:r.vals[c]? =some v) (_:(∀q∈b,c<q.vals.length)) (_:∀e,aD H e->Q (.int (lV a t c d r v:Nat)) e):LW cc h H Q j
theorem x_(f:En P w K B base CT cc I):fc P w K B base CT "broken_rule" 2 ["column","tables","table","number","index"] (LW cc):=by
 show cg f f.fs.wQ ["column","tables","table","number","index","value","counts"] λd z A e F H a Q E q p o T=> ?_;have b:=d8 q;obtain⟨L,E,G,i,e,c,g,h,r,v,rfl,a,⟨m,S,rfl,j,y⟩,l,z,N,d,A,M,k⟩:=p
 show⟨_,(aK (aP 5 o.nd (bH gh (er b (bH aY (pw 1) (pw 2)) (pw 3)) (pw 4)))
  (aK (bz (aQ uB (aW T.bL T.bR (pw 0)) iM (a_ _))
  (au (bz (gM (mW mV mV (aW T.bL T.eZ (pw 0)) (pw 5) (aW T.bL T.eF (pw 0))))
  (au (aJ (bA rfl T.g_)))
  aN))
  (au (bz (gM (dg (aR (oE f) q aM (aj (pw 0) (aj (pw 1) (aj (pw 5) ao))))))
  (au (aJ (bA rfl T.gC)))
  aN)))
  (aK (aP 6 o.nd (Kc (jx uB (aW T.bL T.bR (pw 0)) iM (a_ _)) (ux (jx fK (pw 5) aO (a_ _)))))
  (aK (bz (PW.pt (gK (dg (aW T.bL T.d_ (pw 0))) (gK (dg (pw 6)) (gY (dg (aR (x7 f) q aM (aj (bH aY (pw 1) (pw 2)) (aj (pw 3) (aj (pw 4) ao)))))))))
  (au (aJ (bA rfl T.jC)))
  aN)
  (au (aJ aO)))))),?_⟩
 left;right;obtain⟨x,u,f,O,rfl,o,t,C,E⟩:=b_ y z;obtain⟨q,T,p⟩:=(bZ t C E i).2 r d;walk_at "u";show⟨_,bG.of j,.ref f,bJ u,f,rfl,.ref q,(T▸dJ.k (k:=Sum.inl i) o),q,rfl,_,dO.of p,.int v,bJ (by rw[Ws,A];rfl),?_⟩;have s:tableAt g G=h:=by unfold tableAt;rw[z];rfl
 have p:r.id=i.toNat:=by unfold bK at d;split at d;cases d;simpa using XQ d
 have D:∀R:Hp->Prop,(∀T,Q (.int 0) T->R T)->(∀T,aD H T->Q (.int ((if(h.any λq=>q.id !=i.toNat&&q.vals[e]? ==some v)=true then 4 else 0:Nat):Int)) T)->∃x,bG K H m x/\∃J,oA x (G:Int)=some J/\pI [J,V.int i,V.int (e:Nat)] H (λx z=>x=V.bl false/\R z∨x=V.bl true/\Q (V.int 4) z) E0:=by
  intro R z kk;show⟨_,bG.of j,.ref f,bJ u,_,i,e,h,r,v,rfl,⟨f,O,rfl,o,t,C,E⟩,N,d,A,M,λT F=> ?_⟩;have:=kk T F;cases d:h.any λq=>q.id !=i.toNat&&q.vals[e]? ==some v with
  |false=>rw[d]at this;show .inl ⟨rfl,z _ this⟩
  |true=>rw[d]at this;show .inr ⟨rfl,this⟩
 cases T:c.kind with
 |number lo f=>
  rw[lU T]at a;rw[LS T s,p]at k;left;show⟨_,a,.non,rfl,?_⟩;rw[Wt rfl];show⟨_,a,_,rfl,lo,rfl,?_⟩;by_cases q:lo<=v;rw[Wt q];show⟨_,a,.int f,rfl,f,rfl,?_⟩;by_cases e:v<=f;rw[Wt e];rw[Wn (by lia)]at k;left;show⟨_,a,.non,rfl,?_⟩;rw[Wt rfl];left;show⟨_,a,.bl c.unique,rfl,?_⟩;cases b:c.unique with
  |false=>rw[b]at k;show .inl ⟨rfl,?_⟩;left;show k H (aD.refl _)
  |true=>rw[b]at k;show .inr ⟨rfl,?_⟩;left;show D _ (λ_ z=>by left;show z) k
  rw[Wn e];have:=k H (aD.refl _);rw[Wt (.inr (by lia))]at this;show this;rw[Wn q];have:=k H (aD.refl _);rw[Wt (.inl (by lia))]at this;show this
 |ref f n q=>
  rw[gJ T]at a;rw[LV T s,p]at k;left;show⟨_,a,_,rfl,?_⟩;rw[Wn (by simp)];have p:f<g.length:=by unfold iC at l;rw[T]at l;show l
  show⟨L,_,v,c,f,n,q,g,rfl,by rw[gJ T];show a,T,⟨m,S,rfl,j,y⟩,p,?_⟩;cases d:(brokenKind g (.ref f n q) v).isNone with
  |false=>have:=k H (aD.refl _);rw[d]at this;show .inl ⟨rfl,this⟩
  |true=>
   rw[d]at k;show .inr ⟨rfl,?_⟩;left;show⟨_,a,_,rfl,?_⟩;rw[Wn (by simp)];left;show⟨_,a,.bl c.unique,rfl,?_⟩;cases b:c.unique with
   |false=>rw[b]at k;show .inl ⟨rfl,?_⟩;left;show k H (aD.refl _)
   |true=>rw[b]at k;show .inr ⟨rfl,?_⟩;by_cases T:v=0;have:=k H (aD.refl _);rw[T]at this;show .inl ⟨by rw[T],?_⟩;left;show this;have q:(v==0)=false:=(by simpa using T);rw[q]at k;show .inr ⟨by simpa using T,D _ (λ_ z=>by left;show z) k⟩
theorem Cj{J:It}{g:TG}{h:TS}{D:w5}{a:L2.St}{H:Hp}(n:Nat)(c:Nat->L2.St->Hp->Prop)(j:c 0 a H)(l:∀i a H,i<n->c i a H->J.go i H)(q:∀a H,c n a H->J.stop n H)
 (o:∀i x a H b,i<n->c i a H->J.BE i H x b->g x a b λe p=>h {D with nx:=c (i+1),ct:=c (i+1),bk:=D.nx} e p) (k:∀a H,c n a H->D.nx a H):
 ∃W:Nat->Nat->L2.St->Hp->Prop,(∃m,W 0 m a H)/\∀i m a H,W i m a H->
  (J.stop i H/\D.nx a H)∨(J.go i H/\∃N:L2.St->Hp->Prop,(∀d b,N d b->∃f,f <m/\W (i+1) f d b)/\∀v b,J.BE i H v b->g v a b λe p=>h {D with nx:=N,ct:=N,bk:=D.nx} e p):=by
 show⟨λi m a H=>m=n-i/\i<=n/\c i a H,⟨n,by simp,Xb _,j⟩,?_⟩;rintro i m a H ⟨rfl,e,p⟩;by_cases m:i<n;show .inr ⟨l i a H m p,c (i+1),λd b e =>⟨_,Ye _ _ m,rfl,m,e⟩,λv b y=>o i v a H b m p y⟩;have e:i=n:=by lia
 subst e;show .inl ⟨q a H p,k a H p⟩
theorem gv{K:ay}{e:ai}{xs:ah V}{g:TG}{k:TS}{D:w5}{a:L2.St}{H:Hp}(d:Nat->L2.St->Hp->Prop)(n:d 0 a H)(f:∀i a H,i<=xs.length->d i a H->bG K H e xs)
 (q:∀i x T a H c,xs[i]? =some x->d i a H->aD H c->c T=some (.tup [.int (i:Nat),x])->g (.ref T) a c λh p=>k {D with nx:=d (i+1),ct:=d (i+1),bk:=D.nx} h p) (o:∀a H,d xs.length a H->D.nx a H):
 ∃W:Nat->Nat->L2.St->Hp->Prop,(∃m,W 0 m a H)/\∀i m a H,W i m a H->
  ((Nr K e).stop i H/\D.nx a H)∨((Nr K e).go i H/\∃N:L2.St->Hp->Prop,(∀l c,N l c->∃j,j <m/\W (i+1) j l c)/\∀v c,(Nr K e).BE i H v c->g v a c λh p=>k {D with nx:=N,ct:=N,bk:=D.nx} h p):=by
 show Cj (J:=Nr K e) xs.length d n (λi a H h p=>⟨xs,xs[i],f i a H (by lia) p,by simp[h]⟩) (λa H p=>⟨xs,f _ a H (Wu _) p,Wu _⟩) (λi x a H c h p j=> ?_) o;obtain⟨T,x,rfl,h,rfl,c⟩:=j;show q i x T a H _ (c xs (f i a H (by lia) p)) p (λb o e=>by rw[aF (aA e h)];show e) av
noncomputable def brk (b:az Broken):ah Int:=match b with
 |some z=>[(z.code:Int),(z.table:Int),(z.id:Int),(z.column:Int)]
 |none=>[]
structure Qq(s:Schema)(db:Db):Prop where
 len:db.length=s.length
 few:∀(t:Nat) rows,db[t]? =some rows->rows.length<=8
 rD:∀(t:Nat) rows,db[t]? =some rows->∀r∈rows,r.vals.length=(columnsOf s t).length
structure AJ(s:Schema):Prop where
 few:s.length<=4
 cols:∀t∈s,t.columns.length<=4
 UE:∀t∈s,∀c∈t.columns,match c.kind with| .ref u _ _=>u<s.length|_=>True
theorem oh:∀{l m:ah Int},l.Perm m->l.Pairwise (·<=·)->m.Pairwise (·<=·)->l=m
 |[],m,h,_,_=>(List.nil_perm.mp h).symm
 |a::l,[],h,_,_=>by simp at h
 |a::l,c::m,h,b,e=>by
  obtain⟨d,f⟩:=XY.mp b;obtain⟨g,i⟩:=XY.mp e;have l:=h.mem_iff.mp WD;have b:=h.mem_iff.mpr WD
  have e:a=c:=by
   rcases WB.mp l with e|l
   show e;rcases WB.mp b with e|b
   show e.symm;have:=g a l;have:=d c b
   lia
  subst e;rw[oh (List.perm_cons a |>.mp h) f i]
noncomputable def NR (s:Schema) (a:Db) (t:Nat) (r:aB):az Broken:=(brokenRow s a t r).map λz=>{code:=z.1,table:=t,id:=r.id,column:=z.2}
def LX(s:Schema)(a:Db)(t:Nat):az Broken:=(tableAt a t).findSome? (NR s a t)
theorem JF s a:(brokenIn s a).head? =(List.range s.length).findSome? (LX s a):=by unfold brokenIn;rw[List.head?_flatMap];congr 1;funext t;rw[List.head?_filterMap];rfl
theorem JG b t r c k a v(d:r.vals[c]? =some v):brokenFrom b t r c (k::a)=if lV b t c k r v=0 then brokenFrom b t r (c+1) a else some (lV b t c k r v,c):=by
 rw[brokenFrom];have e:r.vals.getD c 0=v:=by rw[Yh,d];rfl
 rw[e];unfold lV;cases a:brokenKind b k.kind v with
 |some n=>
  have:n≠0:=by unfold brokenKind at a;split at a;split at a;cases a;decide;cases a;split at a;split at a;cases a;cases a;decide;split at a;cases a;decide;split at a;cases a;cases a;decide
  dsimp only;rw[Wn this]
 |none=>
  dsimp only;cases a:k.unique&&isTwice b t c k.kind r.id v with
  |true=>rfl
  |false=>rfl
inductive Ip(cc:aC->ai)(c:ah V)(H:Hp)(Q:VK)(d:XK):Prop
 |mk (sv dv s db) (_:c=[sv,dv]) (_:eL cc H sv s) (_:cV H dv db) (_:AJ s) (_:Qq s db) (_:∀b a,aD H a->a b=some (.lst (aG (brk (brokenIn s db).head?)))->Q (.ref b) a):Ip cc c H Q d
theorem nH(k:En P w K B base CT cc I):fc P w K B base CT "first_broken" 3 ["schema","tables"] (Ip cc):=by
 show cg k k.fs.ue ["schema","tables","table","columns","number","index","column","rule"] λf m A M s H Y Q E y t a T=> ?_;obtain⟨Y,M,s,e,rfl,⟨u,A,rfl,m,U⟩,⟨o,xA,rfl,R,S⟩,xB,z,L⟩:=t
 show⟨_,(aK (cS WT rfl (g4 rfl T.cB (aj (pv 0) ao)) (gf (n:=2) rfl (bU (bh 2 a.nd) (bU (bh 3 a.nd) eO)))
  (au (cS WT rfl (cC (bw (iO rfl) rfl T.gk boot_sorted (aj (bH aY (pv 1) (pv 2)) ao))) (bh 4 a.nd)
  (au (cS WT rfl (g4 rfl T.cB (aj (pv 3) ao)) (gf (n:=2) rfl (bU (bh 5 a.nd) (bU (bh 6 a.nd) eO)))
  (aK (aP 7 a.nd (aR (x_ k) y aM (aj (pw 6) (aj (pw 1) (aj (pw 2) (aj (pw 4) (aj (pw 5) ao)))))))
  (au (bz (aQ fK (pw 7) aO (a_ _))
  (au (aJ (bI (aj (pw 7) (aj (pw 2) (aj (pw 4) (aj (pw 5) ao)))))))
  aN))))))))
  (au (aJ (bI ao)))),?_⟩
 left;rw[JF]at L;show⟨_,rfl,u,_,rfl,bG.of m,gv (xs:=A) (λi f g =>R3 λ(D E h a b c:az V)=>OD (f=[some (.ref u),some (.ref o),D,E,h,a,b,c]) (aD H g) ((List.range s.length).findSome? (LX s e)=((List.range s.length).drop i).findSome? (LX s e))) ⟨none,none,none,none,none,none,rfl,aD.refl _,rfl⟩ ?_ ?_ ?_⟩;rintro i f g k ⟨D,E,h,a,b,c,rfl,x,p⟩;show bG.of (x _ _ m);rintro i W T f Y m A ⟨D,E,h,a,b,c,rfl,x,p⟩ M y;right;obtain⟨N,J,T,xh,rfl,C,Q⟩:=bB U A;have q:=x.trans M;have k:i<s.length:=(Wo.mp J).1;obtain⟨d,v⟩:∃d,e[i]? =some d:=⟨_,Wr (show i<e.length by rw[z.len];show k)⟩;obtain⟨F,r,l,A,rfl,H,G,M,Y⟩:=b_ S v;walk_at "u";walk_at "v";show g2 (dO.of y) ?_;left;have xg:tableAt e i=d:=by unfold tableAt;rw[v];rfl
 have G:columnsOf s i=N.columns:=by unfold columnsOf;rw[J];rfl
 have y:(List.range s.length).drop i=i::(List.range s.length).drop (i+1):=by rw[ZR (by rw[aai];show k),List.getElem_range]
 rw[y,X4]at p;have xr:=z.few i d v;have k:A.length=d.length:=by have:=M.length_eq;rw[Wl]at this;show this
 show⟨_,rfl,_,rfl,o,_,(i:Int),.ref l,rfl,rfl,bG.of (q _ _ R),bJ r,l,aL A,A.map (λy=>(y.1.id:Int)),rfl,.inl (q _ _ H),?_,?_,λX k F O Z=> ?_⟩;unfold aL;rw[WN,WN];rfl;rw[Wl]
 lia
 have A:X =d.map (λr=>(r.id:Int)):=by show oh (F.trans ?_) O ?_;have:=M.map (λr=>(r.id:Int));rw[WN]at this;show this;rw[W9];show Y.imp λ{O F} t=>by lia
 subst A;have M:aD m (upd m k (.lst (aG (d.map λr=>(r.id:Int))))):=λF X l=>by rw[aF (aA l Z)];show l
 have A:upd m k (.lst (aG (d.map λr=>(r.id:Int)))) k=some (.lst (aG (d.map λr=>(r.id:Int)))):=av;generalize upd m k (.lst (aG (d.map λr=>(r.id:Int))))=t at M A|-;have Z:=q.trans M;show⟨k,rfl,⟨_,bG.of A⟩,dN (xs:=aG (d.map λr=>(r.id:Int))) (λj f g =>OB λ(h a b c:az V)=>OD (f=[some (.ref u),some (.ref o),some (.int i),some (.ref T),h,a,b,c]) (aD t g) (LX s e i=(d.drop j).findSome? (NR s e i))) ⟨h,a,b,c,rfl,aD.refl _,?_⟩ ?_ ?_ ?_⟩;unfold LX;rw[xg];rfl;rintro j f g k ⟨h,a,b,c,rfl,t,q⟩;show bG.of (t _ _ A);rintro j W f xg k ⟨h,a,b,c,rfl,t,q⟩;rw[Ws,Ws]at k;cases m:d[j]? with
 |none=>rw[m]at k;cases k
 |some r=>
  rw[m]at k;cases k;have H:=Wq m;have M:=Z.trans t;rw[jZ m,X4]at q;have A:=z.rD i d v;rw[G]at A;simp[mz];show⟨_,rfl,T,_,rfl,bG.of (M _ _ C),gv (xs:=xh) (λk f g =>MP λ(a b c:az V)=>OD (f=[some (.ref u),some (.ref o),some (.int i),some (.ref T),some (.int (r.id:Nat)),a,b,c]) (aD xg g) (NR s e i r=(brokenFrom e i r k (N.columns.drop k)).map λy=>{code:=y.1,table:=i,id:=r.id,column:=y.2})) ⟨a,b,c,rfl,aD.refl _,?_⟩ ?_ ?_ ?_⟩;unfold NR brokenRow;rw[G];rfl;rintro k f g y ⟨a,b,c,rfl,u,s⟩;show bG.of (u _ _ (M _ _ C));rintro k W G f m xh C ⟨a,b,c,rfl,u,s⟩ xg y;obtain⟨m,G,xj,rfl,xq⟩:=bB Q C;have C:=M.trans (u.trans xg);walk_at "v";show g2 (dO.of y) ?_;left;have M:k<r.vals.length:=by rw[A r H];show(Wo.mp G).1
  obtain⟨y,W⟩:∃y,r.vals[k]? =some y:=⟨_,Wr M⟩;have xu:bK d (r.id:Int)=some r:=by unfold bK;rw[Wn (by lia),WQ];show gu Y H
  have Y:=Wq G
  have xx:iC e m.kind:=by
   have:=xB.UE N (Wq J) m Y;unfold iC;cases Y:m.kind with
   |number=>trivial
   |ref N n J=>rw[Y]at this;rw[z.len];show this
  have Y:cV xh (.ref o) e:=⟨o,xA,rfl,C _ _ R,Rows.same S C⟩;show⟨xj,_,i,_,k,m,e,d,r,y,rfl,aD.ob C xq,Y,xx,v,xr,xu,W,λJ z=>by rw[A J z,<- A r H];show M,λN o=> ?_⟩;left;rw[jZ G,JG e i r k m _ y W]at s;by_cases d:lV e i k m r y=0;rw[Wt d]at s;show .inl ⟨by rw[d],u.trans (xg.trans o),s⟩;rw[Wn d]at s;show .inr ⟨by simpa using d,by rw[Wx];decide,λy k=>L y _ (C.trans (o.trans λF X l=>by rw[aF (aA l k)];show l)) ?_⟩;rw[av,p,q,s];rfl;rintro f g ⟨a,b,c,rfl,u,s⟩;show⟨⟨some (.int (r.id:Nat)),a,b,c,rfl⟩,t.trans u,?_⟩;rw[q,s,Xk (by rw[aT Q];show Wu _)];rfl
 rintro f g ⟨h,a,b,c,rfl,t,q⟩;show⟨⟨some (.int i),some (.ref T),h,a,b,c,rfl⟩,Z.trans t,?_⟩;rw[p,q,Xk (by simp)];rfl;rintro f g ⟨D,E,h,a,b,c,rfl,x,p⟩;left;show λO k=>L O _ (x.trans λF X l=>by rw[aF (aA l k)];show l) ?_;rw[av,p,Xk (by rw[aai,<- aT U];show Wu _)];rfl
theorem NS{K:ay}{j:ai}{xs:ah V}{k:TG}{l:TE}{g:ah Nat}{h:L2.St}{c:Hp}{Q:VK}(o:bG K c j xs)(f:ai->Nat->Hp->ai->Prop)(e:xs.length<sizeLine)
 (r:∀D i H b d,f D i H d->bS [D] H b->f D i b d) (there:∀D i H d,f D i H d->d≠D/\H d≠none)
 (z:∀D i x H a,xs[i]? =some x->c D=none->aD c H->(∃acc,H D=some (.lst acc))->(∀d e,H d=none->aD H e->f D i e d->a (.ref d) e)->k x (d9 h g) H λm n=>d9 m g=d9 h g/\l m n a)
 (u:∀(D:ai)(a:ah ai)(b :Hp),c D=none->aD c b->b D=some (.lst (a.map V.ref))->a.length=xs.length->a.Nodup->(∀d∈a,c d=none)->(∀(i:Nat) d,a[i]? =some d->f D i b d)->Q (.ref D) b):rB (CG K j) k I8 l g h c Q:=by
 intro D l;show BV (xs:=xs) (λi b =>i<=xs.length/\aD c b/\∃a:ah ai,b D=some (.lst (a.map V.ref))/\a.length=i/\a.Nodup/\(∀d∈a,c d=none)/\∀(j:Nat) d,a[j]? =some d->f D j b d) ?_ ?_ ?_ ?_;show⟨Xb _,λt v g=>by rw[aF (aA g l)];show g,[],av,rfl,YQ,(λd m=>by cases m),λj y h=>by simp at h⟩;rintro i H Q ⟨_,s,_⟩;show s.seq o;rintro i x H b ⟨_,s,a,o,k,p,q,n⟩;have Q:=(Wo.mp b).1;have w:=z D i x H (λy e=>∃acc,e D=some (.lst acc)/\acc.length<sizeLine/\(i+1<=xs.length/\aD c (upd e D (.lst (acc++[y])))/\∃a:ah ai,upd e D (.lst (acc++[y])) D=some (.lst (a.map V.ref))/\a.length=i+1/\a.Nodup/\(∀d∈a,c d=none)/\∀(j:Nat) d,a[j]? =some d->f D j (upd e D (.lst (acc++[y]))) d)) b l s ⟨_,o⟩ ?_;show w;intro d e m f y;have x:d∉a:=λe=>by obtain⟨j,b⟩:=XZ.mp e;show(there D j H d (n j d b)).2 m
 show⟨_,f _ _ o,by rw[Wl,k];lia,Q,λt v g=> ?_,a++[d],by rw[av,WZ];rfl,by simp[k],nY p x,λc e=> ?_,λj c b=> ?_⟩;rw[aF (aA g l)];show f _ _ (s _ _ g);rcases W0.mp e with h|h
 show q c h;simp at h;subst h;show s.free m;by_cases e:j<a.length;rw[Y8 e]at b;show r D j _ _ c (r D j _ _ c (n j c b) (aD.but f _)) bS.upd;have e:=(Wo.mp b).1;simp at e;have:j=a.length:=by lia
 subst this;rw[Y4 (Wu _)]at b;simp at b;subst b;rw[k];show r D i _ _ d y bS.upd;rintro H ⟨_,s,a,o,k,p,q,n⟩;show u D a H l s o k p q n
inductive LY(d:ah V)(H:Hp)(Q:VK)(e:XK):Prop
 |mk (dv db) (_:d=[dv]) (_:cV H dv db) (_:db.length<=4) (_:∀(c:ai)(b:ah ai)(a :Hp),H c=none->aD H a->a c=some (.lst (b.map V.ref))->b.Nodup->(∀f∈b,H f=none)->Paired (dm a) (b.map V.ref) db->Q (.ref c) a):LY d H Q e
theorem oZ(g:En P w K B base CT cc I):fc P w K B base CT "copy_tables" 1 ["tables"] LY:=by
 show cg g g.fs.wR ["tables","rows"] λf b A n l H e Q E s h sc T=> ?_;obtain⟨n,b,rfl,⟨e,p,rfl,g,l⟩,f,k⟩:=h;show⟨_,(au (aJ (ju (own:=[("rows",1)]) rfl sc.nd (cC (pv 0)) (cY (N:=["tables","rows"]) (sc:=bD oO) (by decide+kernel)) (λ_ _ _ _ _=>(bh 1 sc.nd)) (λ_ _ _ _ _=>fU) (λ_ _ _ _ _=>(dH K4 rfl T.q7 boot_dict (aj (pw 1) ao)))))),?_⟩;left;have n:=aT l;rw[gj];show⟨_,rfl,e,rfl,⟨_,bG.of g⟩,?_⟩;dsimp only;show NS (bG.of g) (λD i H d=>d≠D/\∃c a,b[i]? =some c/\H d=some (.dK (aL a))/\(∀z∈a,z.2≠D/\H z.2=some (.tup (aG z.1.vals)))/\(a.map (·.1)).Perm c/\b4 c) (by rw[Wx];lia) ?_ ?_ ?_ ?_;rintro D i m b d ⟨g,c,a,o,j,f,e⟩ H;show⟨g,c,a,o,H _ _ (b6 g) j,λz b=>⟨(f z b).1,H _ _ (b6 ((f z b).1)) (f z b).2⟩,e⟩;rintro D i m d ⟨g,c,a,o,j,f,e⟩;show⟨g,by rw[j];simp⟩;intro D i y m n e r h p t;right;obtain⟨c,T,d,a,rfl,g,q,v,x⟩:=bB l e;left;obtain⟨acc,p⟩:=p;show⟨_,.inl (h _ _ g),λu l=>t u _ l (λH A n=>by rw[aF (aA n l)];show n) ⟨(λn=>by rw[n,p]at l;cases l),c,a,T,av,λz b=>⟨bF (h _ _ (q z b)) p (by simp),?_⟩,v,x⟩⟩;rw[aF (aA (h _ _ (q z b)) l)];show h _ _ (q z b);intro D g m r h H l n p s;show k D g m r h H n p (gQ (by rw[Wl];lia) λi y A e l=> ?_);rw[Ws]at e;cases H:g[i]? with
 |none=>rw[H]at e;cases e
 |some d=>rw[H]at e;cases e;obtain⟨_,c,a,o,g,j,f⟩:=s i d H;rw[o]at l;cases l;show⟨d,a,rfl,g,λz b=>(j z b).2,f⟩
theorem oi r:∀l q,q∈VauowBase.putIn r l->q=r∨q∈l
 |[],q,h=>by rw[VauowBase.putIn]at h;simp at h;show .inl h
 |a::l,q,h=>by
  rw[VauowBase.putIn]at h;split at h;rcases WB.mp h with h|h
  show .inl h;show .inr h;split at h;rcases WB.mp h with h|h
  show .inl h;show .inr (Wz _ h);rcases WB.mp h with h|h
  show .inr (by rw[h];show WD);rcases oi r l q h with h|h
  show .inl h;show .inr (Wz _ h)
theorem iD:∀{l},b4 l->b4 (VauowBase.putIn r l)
 |[],_=>Z5 _ _
 |a::l,h=>by
  obtain⟨c,d⟩:=XY.mp h;rw[VauowBase.putIn];split;rename_i e;show XY.mpr ⟨λq b=> ?_,h⟩;rcases WB.mp b with rfl|b
  show e;have:=c q b
  lia
  split;rename_i f;show XY.mpr ⟨λq b=>by have:=c q b;lia,d⟩;show XY.mpr ⟨λq b=> ?_,iD d⟩;rcases oi r l q b with rfl|b
  lia
  show c q b
theorem lW:∀{l},(∀q∈l,q.id≠r.id)->(l++[r]).Perm (VauowBase.putIn r l)
 |[],_=> .refl _
 |a::l,h=>by rw[VauowBase.putIn];have b:=h a WD;split;show List.perm_append_singleton r (a::l);rw[Wn (λz=>b z.symm)];show(lW λq b=>h q (Wz _ b)).cons a
theorem gw:∀{l},b4 l->(∃q∈l,q.id=r.id)->VauowBase.putIn r l=l.map λq=>if q.id=r.id then r else q
 |[],_,h=>by obtain⟨_,h,_⟩:=h;cases h
 |a::l,b,h=>by
  obtain⟨d,i⟩:=XY.mp b;obtain⟨q,c,e⟩:=h;rw[VauowBase.putIn,WM];rcases WB.mp c with rfl|c
  rw[Wn (by lia),Wt e.symm,Wt e]
  have:∀m:ah aB,(∀b∈m,b.id≠r.id)->(m.map λq=>if q.id=r.id then r else q)=m:=by
   intro m f
   induction m with
   |nil=>rfl
   |cons g m j=>rw[WM,Wn (f g WD),j λb h=>f b (Wz _ h)]
  rw[this l λb h=>by have:=d b h;lia];have:=d q c;rw[Wn (by lia),Wn (by lia),Wn (by lia),gw i ⟨q,c,e⟩]
theorem Et(g:(f.map (·.1)).Perm a)(i:b4 a) r d:∃b,fV (aL f) (Sum.inl (r.id:Int)) (.ref d)=aL b/\(∀z∈b,z=(r,d)∨z∈f)/\(b.map (·.1)).Perm (VauowBase.putIn r a)/\b4 (VauowBase.putIn r a):=by
 by_cases h:∃z∈f,z.1.id=r.id;show⟨f.map λz=>if z.1.id=r.id then(r,d)else z,?_,λz b=> ?_,?_,iD i⟩;obtain⟨z,b,e⟩:=h;have a:((aL f).any λj=>decide (j.1=Sum.inl (r.id:Int)))=true:=by unfold aL;rw[Zq,X7];show⟨z,b,by change decide ((Sum.inl (z.1.id:Int):Key)=Sum.inl (r.id:Int))=true;rw[e];show WK rfl⟩
 unfold fV;rw[Wt a];unfold aL;rw[WN,WN];show Xv λa _=> ?_;change(if(Sum.inl (a.1.id:Int):Key)=Sum.inl (r.id:Int)then _ else _)=(Sum.inl ((if a.1.id=r.id then(r,d)else a).1.id:Int),V.ref (if a.1.id=r.id then(r,d)else a).2);by_cases c:a.1.id=r.id;rw[Wt (by rw[c]),Wt c];change(Sum.inl (a.1.id:Int),V.ref d)=(Sum.inl (r.id:Int),V.ref d);rw[c];rw[Wn (λz=>c (by have:=YC z;lia)),Wn c];obtain⟨a,j,rfl⟩:=Wy.mp b;by_cases c:a.1.id=r.id;rw[Wt c];show .inl rfl;rw[Wn c];show .inr j;obtain⟨z,b,e⟩:=h;rw[gw i ⟨z.1,g.mem_iff.mp (Xc b),e⟩,WN];have:=g.map λq:aB=>if q.id=r.id then r else q
 rw[WN]at this;show List.Perm.trans (List.Perm.of_eq (Xv λa _=> ?_)) this;change(if a.1.id=r.id then(r,d)else a).1=if a.1.id=r.id then r else a.1
 split<;>rfl;have j:∀z∈f,z.1.id≠r.id:=λz b e=>h ⟨z,b,e⟩;show⟨f++[(r,d)],?_,λz b=> ?_,?_,iD i⟩;rw[jS];unfold aL;rw[WZ];rfl;cases e:d7 (aL f) (Sum.inl (r.id:Int))with
 |none=>rfl
 |some v=>have a:=tF e;unfold aL at a;rw[WN]at a;obtain⟨z,b,c⟩:=Wy.mp a;have:=YC c;show absurd (by lia) (j z b)
 rcases W0.mp b with h|h
 show .inr h;simp at h;show .inl h;rw[WZ];show(g.append_right [r]).trans (lW λq a=> ?_);obtain⟨z,b,e⟩:=Wy.mp (g.mem_iff.mpr a);rw[<- e];show j z b
inductive AK(K:ay)(e:ah V)(H:Hp)(Q:VK)(f:XK):Prop
 |mk (d:V) (t i:Nat) (b:ai) (l:ah Int) (a:Db) (_:e=[d,.int t,.int i,.ref b]) (_:cV H d a) (_:a.length<=4) (_:t<a.length) (_:(∀g∈a,g.length<=8)) (_:(bG K H b (aG l)∨dO K H b (aG l)/\H b=some (.tup (aG l)))) (_:∀v c,aD H c->cV c v (putRow a t {id:=i,vals:=l})->Q v c):AK K e H Q f
theorem pJ(C:En P w K B base CT cc I):fc P w K B base CT "with_row" 2 ["tables","table","number","values"] (AK K):=by
 show cg C C.fs.FL ["tables","table","number","values","others"] λya x8 xY ye yg x6 yh Z xZ R xx xW xg=> ?_;have xR:=d8 R;obtain⟨xj,t,J,xX,l,s,rfl,xJ,xM,S,xE,v,k⟩:=xx
 show⟨_,(aE (aP 4 xW.nd (aR (oZ C) R aM (aj (pw 0) ao)))
  (aE (iT xR (bH aY (pw 4) (pw 1)) (pw 2) (dH q6 rfl xg.nZ boot_tuple (aj (pw 3) ao)) rfl)
  (au (aJ (pw 4))))),?_⟩
 left;show⟨xj,s,rfl,xJ,xM,λi j M yb y D xN xP F=> ?_⟩;have xK:j.length=s.length:=by have:=aT F;rw[Wl]at this;show this
 right;obtain⟨o,G⟩:∃o,s[t]? =some o:=⟨_,Wr S⟩;have H:tableAt s t=o:=by unfold tableAt;rw[G];rfl
 obtain⟨yi,c,d,xU,rfl,xF,xQ,X,xT⟩:=b_ F G;walk_at "u"
 have Q:j[t]? =some d:=by
  rw[Ws]at c;cases e:j[t]? with
  |none=>rw[e]at c;cases c
  |some r=>rw[e]at c;cases c;rfl
 have yc:=xE o (Wq G);have yd:xU.length=o.length:=by have:=X.length_eq;rw[Wl]at this;show this
 have N:∀a h,aD M a->a h=some (.tup (aG l))->∃W,V.ref i=V.ref W/\∃xs,bG K a W xs/\∃Y,oA xs (t:Int)=some Y/\∃d,Y=V.ref d/\∃q,m8 a d (.int (J:Nat)) (.ref h) q/\Z (.ref i) q:=by
  intro a h b T;have m:=b _ _ xF;show⟨i,rfl,_,bG.of (b _ _ D),.ref d,bJ c,d,rfl,_,m8.k (k:=Sum.inl (J:Int)) m (by unfold aL;rw[Wl,Wx];lia),?_⟩;obtain⟨p,A,xq,xr,xu⟩:=Et X xT {id:=J,vals:=l} h;have A:=A;rw[A];have f:bS [d] a (upd a d (.dK (aL p))):=bS.upd;have O:upd a d (.dK (aL p)) d=some (.dK (aL p)):=av;generalize upd a d (.dK (aL p))=q at f O|-;have xH:=xP d (Wq Q);show k (.ref i) q (λxh xS e=>f _ _ (b6 (aA e xH)) (b _ _ (y _ _ e))) ⟨i,_,rfl,f _ _ (b6 (bF (b _ _ D) m (by simp))) (b _ _ D),?_⟩;unfold putRow;rw[H];show gQ (by rw[Wl,XM];show xK) λL yk yf x u=> ?_;by_cases E:L=t;subst E;rw[c]at x;cases x;rw[Xe S]at u;cases u;show⟨d,p,rfl,O,λz n=> ?_,xr,xu⟩;rcases xq z n with rfl|n
  show f _ _ (b6 (bF T m (by simp))) T;have:=b _ _ (xQ z n);show f _ _ (b6 (bF this m (by simp))) this;rw[Xn (λz=>E z.symm)]at u;obtain⟨yj,g,r,xV,rfl,xA,xB,xC⟩:=b_ F u;rw[g]at x;cases x
  have xG:j[L]? =some r:=by
   rw[Ws]at g;cases e:j[L]? with
   |none=>rw[e]at g;cases g
   |some x9=>rw[e]at g;cases g;rfl
  have xO:r≠d:=λe=>by subst e;show E (qt xN xG Q)
  show⟨r,xV,rfl,f _ _ (b6 xO) (b _ _ xA),λz n=> ?_,xC⟩;have:=b _ _ (xB z n);show f _ _ (b6 (bF this m (by simp))) this
 rcases v with v|⟨v,U⟩
 show⟨_,.inl ⟨y.seq v,λh H=>N _ h (λxh xS e=>by rw[aF (aA e H)];show e) av⟩⟩;show⟨_,.inr ⟨dO.of (y _ _ U),N M xX (aD.refl _) (y _ _ U)⟩⟩
inductive sd(e:ah V)(H:Hp)(Q:VK)(f:XK):Prop
 |mk (d:ai) (c:Nat) (v:Int) (l:ah Int) (_:e=[.ref d,.int c,.int v]) (_:H d=some (.tup (aG l))) (_:c<l.length) (_:l.length<=4) (_:∀b a,aD H a->a b=some (.tup (aG (l.set c v)))->Q (.ref b) a):sd e H Q f
theorem jE(z:En P w K B base CT cc I):fc P w K B base CT "with_value" 1 ["row","index","value"] sd:=by
 show cg z z.fs.Bm ["row","index","value"] λf a A b s H i Q E u h sc T=> ?_;obtain⟨i,c,v,l,rfl,x,a,z,k⟩:=h;show⟨_,(au (aJ (ef D3 (ef D3 (fL Kw (pw 0) p7 (ek (pw 1))) (iN (aj (pw 2) ao))) (fL Kw (pw 0) (ek (ef gZ (pw 1) aO)) p7)))),?_⟩;left;have sz:∀{n:Nat},n<=100->n<=sizeLine:=λ{n} h=>by rw[Wx];lia
 have s:(aG l).length=l.length:=Wl _;have z:jy (aG l) none (some (c:Int))=aG (l.take c):=by unfold jy;rw[HT.gy,HT.mX,aaR,Yo (by lia),Nat.sub_zero,<- aat]
 have C:jy (aG l) (some ((c:Int)+1)) none=aG (l.drop (c+1)):=by unfold jy;rw[show((c:Int)+1)=((c+1:Nat):Int) by lia,HT.gy,HT.mX,Yo (by lia),<- aa6];show W2 (by simp)
 have y:aG (l.set c v)=(aG (l.take c)++[V.int v])++aG (l.drop (c+1)):=by rw[List.set_eq_take_append_cons_drop,Wt a];simp
 show⟨_,dO.of x,λ_=> ?_,λp b=>⟨sz (by decide),λq a=> ?_⟩⟩;rw[HT.gy,s]
 lia
 rw[z]at a|-;have h:aD H (upd H p (.tup (aG (l.take c)))):=λd o e=>by rw[aF (aA e b)];show e
 have t:upd H p (.tup (aG (l.take c))) p=some (.tup (aG (l.take c))):=av;generalize upd H p (.tup (aG (l.take c)))=z at h t a|-;have f:aD z (upd z q (.tup [V.int v])):=λd o e=>by rw[aF (aA e a)];show e
 have g:upd z q (.tup [V.int v]) q=some (.tup [V.int v]):=av;generalize upd z q (.tup [V.int v])=A at f g|-;have a:(l.take c).length<=4:=by rw[Xo];lia
 have a:(l.drop (c+1)).length<=4:=by rw[Xu];lia
 have j:∀(b:ai)(a:Hp),aD H a->a b=some (.tup (aG (l.take c)++[V.int v]))->∃z,dO K a i z/\(HT.eK z.length 0 (some ((c:Int)+1))=0->¬HT.eK z.length z.length none=z.length)/\∀(p:ai),a p=none->Li K (.ref b) (V.ref p) (upd a p (HO.tup (jy z (some ((c:Int)+1)) none))) Q:=by
  intro b a i m;show⟨_,dO.of (i _ _ x),λz=> ?_,λr u=> ?_⟩;rw[show((c:Int)+1)=((c+1:Nat):Int) by lia,HT.gy,s]at z
  lia
  rw[C];have H:aD a (upd a r (.tup (aG (l.drop (c+1))))):=λd o e=>by rw[aF (aA e u)];show e
  have s:upd a r (.tup (aG (l.drop (c+1)))) r=some (.tup (aG (l.drop (c+1)))):=av;generalize upd a r (.tup (aG (l.drop (c+1))))=u at H s|-;show⟨b,r,_,_,rfl,rfl,dO.of (H _ _ m),dO.of s,?_,λz=>by simp at z,λ_ z=>k b u (i.trans H) ?_,λ_ _ l a=>k l _ (i.trans (H.trans λd o e=>by rw[aF (aA e a)];show e)) ?_⟩;rw[WY,Wl,Wl];show sz ?_;simp only[WG,Xj]
  lia
  rw[y,z,XJ];show H _ _ m;rw[av,y]
 show⟨p,q,_,_,rfl,rfl,dO.of (f _ _ t),dO.of g,?_,λz=>j q A (h.trans f) ?_,λ_ z=>by simp at z,λ_ _ b a=>j b _ (h.trans (f.trans λd o e=>by rw[aF (aA e a)];show e)) av⟩;rw[Wl];show sz ?_;simp only[WG,Xj]
 lia
 rw[z];show g
theorem NT{K:ay}(k:bG K a j xs) keep c(s:xs.length<sizeLine)
 (m:∀x H(g:VK)(e:Hp->Prop),x∈xs->aD a H->(keep x=true->g (c x) H)->(keep x=false->e H)->y x (d9 h b) H λs i=>d9 s b=d9 h b/\n s i λf d=>if f=true then o s d g else e d)
 (l:∀(D:ai)(s :Hp),a D=none->aD a s->s D=some (.lst ((xs.filter keep).map c))->Q (.ref D) s):rB (CG K j) y n o b h a Q:=by
 intro D g;show BV (xs:=xs) (λi s =>aD a s/\s D=some (.lst (((xs.take i).filter keep).map c))) ?_ ?_ ?_ ?_;show⟨λf o e=>by rw[aF (aA e g)];show e,av⟩;rintro i H b ⟨s,_⟩;show s.seq k;rintro i x H j ⟨s,d⟩;have b:=(Wo.mp j).1;have k:xs.take (i+1)=xs.take i++[x]:=by rw[W7,j];rfl
 have Q:(((xs.take i).filter keep).map c).length<sizeLine:=by
  have:=X3 keep (xs.take i);rw[Xo]at this;rw[Wl]
  lia
 show m x H (λy b=>∃acc,b D=some (.lst acc)/\acc.length<sizeLine/\(aD a (upd b D (.lst (acc++[y])))/\upd b D (.lst (acc++[y])) D=some (.lst (((xs.take (i+1)).filter keep).map c)))) (λb=>aD a b/\b D=some (.lst (((xs.take (i+1)).filter keep).map c))) (Wq j) s (λh=> ?_) (λh=> ?_);show⟨_,d,Q,λf o e=>by rw[aF (aA e g)];show s _ _ e,?_⟩;rw[av,k,XW,WZ];simp[h];show⟨s,?_⟩;rw[d,k,XW,WZ];simp[h];rintro H ⟨s,d⟩;rw[Y0]at d;show l D H g s d
theorem iQ{c:nF}{b:ah aB}(f:(c.map (·.1)).Perm b)(g:b4 b){a:ah Int}(d:a.Perm (c.map λz=>(z.1.id:Int)))(e:a.Pairwise (·<=·)):a=b.map λr=>(r.id:Int):=by show oh (d.trans ?_) e ?_;have:=f.map (λr=>(r.id:Int));rw[WN]at this;show this;rw[W9];show g.imp λ{a b} h=>by lia
theorem gx a:(aL a).map (·.1)=(a.map λz=>(z.1.id:Int)).map Sum.inl:=by unfold aL;rw[WN,WN];rfl
inductive Eu(g:ah V)(H:Hp)(Q:VK)(h:XK):Prop
 |mk (f:V) (u c:Nat) (i:Int) (e:Db) (a:ah aB) (_:g=[f,.int u,.int c,.int i]) (_:cV H f e) (_:e[u]? =some a) (_:a.length<=8) (_:(∀q∈a,c<q.vals.length)) (_:∀d b,aD H b->b d=some (.lst (aG ((a.filter λr=>r.vals[c]? ==some i).map λr=>(r.id:Int))))->Q (.ref d) b):Eu g H Q h
theorem vC(d:En P w K B base CT cc I):fc P w K B base CT "having" 1 ["tables","table","index","value"] Eu:=by
 show cg d d.fs.J8 ["tables","table","index","value","rows","number"] λf D A m s H e Q E a h sc T=> ?_;have d:=d8 a;obtain⟨m,u,c,i,j,b,rfl,⟨e,o,rfl,p,g⟩,D,f,y,k⟩:=h
 show⟨_,(aE (aP 4 sc.nd (bH aY (pw 0) (pw 1)))
  (au (aJ (ju (own:=[("number",5)]) rfl sc.nd (cC (bw (iO rfl) rfl T.gk boot_sorted (aj (pv 4) ao))) (cY (N:=["tables","table","index","value","rows","number"]) (sc:=bD CK) (by decide+kernel)) (λ_ _ _ _ _=>(bh 5 sc.nd)) (λ_ _ _ _ _=>p_ (aQ cM (bH (show ML _ (F8 K)from gh) (er d (pw 4) (pw 5)) (pw 2)) (pw 3) (a_ _))) (λ_ _ _ _ _=>(pw 5)))))),?_⟩
 left;right;obtain⟨m,j,e,d,rfl,u,x,q,f⟩:=b_ g D;walk_at "u";have D:d.length=b.length:=by have:=q.length_eq;rw[Wl]at this;show this
 show⟨_,bG.of p,.ref e,bJ j,?_⟩;rw[gj];show⟨_,rfl,e,aL d,_,rfl,.inl u,gx d,by rw[Wl];lia,λm p g j D=> ?_⟩;have d:=iQ q f g j;subst d;have g:aD H (upd H p (.lst (aG (b.map λr=>(r.id:Int))))):=λd o e=>by rw[aF (aA e D)];show e
 have d:upd H p (.lst (aG (b.map λr=>(r.id:Int)))) p=some (.lst (aG (b.map λr=>(r.id:Int)))):=av;generalize upd H p (.lst (aG (b.map λr=>(r.id:Int))))=D at g d|-;show⟨p,rfl,⟨_,bG.of d⟩,?_⟩;dsimp only;show NT (bG.of d) (λv=>match v with| .int n=>(b.any λr=>(r.id:Int)==n&&r.vals[c]? ==some i)|_=>false) id ?_ ?_ ?_;rw[Wl,Wl,Wx]
 lia
 intro v l m D d j H p;right;obtain⟨n,D,rfl⟩:=Wy.mp d;obtain⟨r,a,rfl⟩:=Wy.mp D;obtain⟨z,D,e⟩:=Wy.mp (q.mem_iff.mpr a);obtain⟨m,o,t⟩:=jk x q f D;rw[e]at o t;have x:=g.trans j;obtain⟨v,d⟩:∃v,r.vals[c]? =some v:=⟨_,Wr (y r a)⟩;have D:(b.any λq=>(q.id:Int)==(r.id:Int)&&q.vals[c]? ==some i)=decide (v=i):=by rw[Xg,X7,XG];constructor;rintro⟨q,e,h⟩;simp at h;have:q=r:=fQ f e a (by lia);subst this;rw[d]at h;show W5 h.2;intro h;show⟨r,a,by rw[d,h];simp⟩
 dsimp only at H p;rw[D]at H p;left;show⟨.ref m,o▸dJ.k (k:=Sum.inl (r.id:Int)) (x _ _ u),m,rfl,_,dO.of (x _ _ t),.int v,bJ (by rw[Ws,d];rfl),rfl,?_⟩;by_cases d:v=i;rw[Wt (by rw[d])];show H (WK d);rw[Wn (by simpa using d)];show p (WC d);intro D l m j d;show k D l (g.trans j) ?_;rw[d];congr 2;rw[List.map_id];unfold aG;rw[WN,abp,WN];congr 1;show abV λr a=> ?_;change(b.any λq=>(q.id:Int)==(r.id:Int)&&q.vals[c]? ==some i)=_;rw[Xg,X7];constructor;rintro⟨q,e,h⟩;rw[WV]at h;have d:=h.1;simp at d;have:=fQ f e a (by lia);subst this;show h.2;intro h;show⟨r,a,by rw[h];simp⟩
theorem aD.new(a:H p=none):aD H (L2.upd H p o):=λb u e=>by rw[aF (aA e a)];show e
structure Lk where
 t:Nat
 n:Nat
 c:Nat
 aw:Away
 u:Nat
 v:Int
noncomputable def Wh (k:Lk) (h g:ai):ah (Str×V):=[("table",.int k.t),("number",.int k.n),("index",.int k.c),("removal",.str (jw k.aw)),("holder",.ref h),("goal",.ref g)]
inductive jm(cc:aC->ai)(H:Hp)(v:V)(k:Lk):Prop
 |mk (a h g) (_:v= .ref a) (_:Ob H a (cc "Link") (Wh k h g)) (_:H h=some (.tup [.int k.t,.int k.n])) (_:H g=some (.tup [.int k.u,.int k.v])):jm cc H v k
theorem Ob.upd{fs:ah (Str×V)}(n:b≠a)(h:Ob H b C fs):Ob (L2.upd H a o) b C fs:=by obtain⟨dx,e⟩:=h;show⟨dx,by rw[aF n];show e⟩
inductive vD(cc:aC->ai)(g:ah V)(H:Hp)(Q:VK)(h:XK):Prop
 |mk (a i e:ai) (t n d:Nat) (v:Int) (f:Column) (u:Nat) (j:Bool) (c:Away) (_:g=[.ref a,.int t,.int n,.int d,.ref e,.int v]) (_:H a=some (.ins (cc "Link") i [])) (_:Ob H e (cc "Column") (oB f)) (_:f.kind= .ref u j c) (_:∀b,bS [a] H b->jm cc b (.ref a) ⟨t,n,d,c,u,v⟩->Q .non b):vD cc g H Q h
theorem Qs(c:En P w K B base CT cc I):MN P w K B base CT (cc "Link") "Link" 1 ["self","table","number","index","column","value"] (vD cc):=by
 show Jm c c.La c.gF ["self","table","number","index","column","value"] λf q A h s H e Q E t d l T=> ?_;obtain⟨a,b,q,t,n,l,v,e,u,g,i,rfl,f,c,h,r⟩:=d
 show⟨_,(aE (bX T.cK T.fX (pw 0) (pw 1) rfl)
  (aE (bX T.cK T.eG (pw 0) (pw 2) rfl)
  (aE (bX T.cK T.fY (pw 0) (pw 3) rfl)
  (aE (bX T.cK T.dW (pw 0) (aW T.bL T.dj (pw 4)) rfl)
  (aE (bX T.cK T.dS (pw 0) (iN (aj (pw 1) (aj (pw 2) ao))) rfl)
  (au (bX T.cK T.fM (pw 0) (iN (aj (aW T.bL T.bR (pw 4)) (aj (pw 5) ao))) rfl))))))),?_⟩
 have d:q≠a:=by
  obtain⟨q,e⟩:=c;show bF e f λz=> ?_;injection z with _ _ q
  unfold oB at q;rw[h]at q;cases q
 rw[gJ h]at c;have sz:(2:Nat)<=sizeLine:=by rw[Wx];lia
 left;show⟨b,[],f,by decide,by walk_at "p",by walk_at "p",_,Ob.upd d c,_,rfl,by walk_at "p",sz,λp q=> ?_⟩;have j:a≠p:=λe=>by rw[<- e,av]at q;cases q
 generalize g:(cA (Str.ofString "removal") (V.str (jw i)) (cA (Str.ofString "index") (V.int ↑l) (cA (Str.ofString "number") (V.int ↑n) (cA (Str.ofString "table") (V.int ↑t) ([]:ah (Str×V))))))=T at q|-;have m:bS [a] H (upd H a (HO.ins (cc "Link") b T)):=bS.upd;have f:upd H a (HO.ins (cc "Link") b T) a=some (HO.ins (cc "Link") b T):=av;have h:=Ob.upd (o:=HO.ins (cc "Link") b T) d c;generalize upd H a (HO.ins (cc "Link") b T)=c at q m f h|-;have H:aD c (upd c p (HO.tup [V.int ↑t,V.int ↑n])):=λl o e=>by rw[aF (aA e q)];show e
 have k:upd c p (HO.tup [V.int ↑t,V.int ↑n]) p=some (HO.tup [V.int ↑t,V.int ↑n]):=av;generalize upd c p (HO.tup [V.int ↑t,V.int ↑n])=q at H k|-;have c:T.length<1000:=by rw[<- g];walk_at "p"
 show⟨b,T,H _ _ f,c,?_⟩;have i:bS [a] q (upd q a (HO.ins (cc "Link") b (cA (Str.ofString "holder") (V.ref p) T))):=bS.upd;have f:upd q a (HO.ins (cc "Link") b (cA (Str.ofString "holder") (V.ref p) T)) a=some (HO.ins (cc "Link") b (cA (Str.ofString "holder") (V.ref p) T)):=av;have t:=Ob.upd (o:=HO.ins (cc "Link") b (cA (Str.ofString "holder") (V.ref p) T)) d (aD.ob H h);generalize upd q a (HO.ins (cc "Link") b (cA (Str.ofString "holder") (V.ref p) T))=c at i f t|-;show⟨_,t,_,rfl,sz,λq h=> ?_⟩;have d:aD c (upd c q (HO.tup [V.int ↑u,V.int v])):=λl o e=>by rw[aF (aA e h)];show e
 have l:upd c q (HO.tup [V.int ↑u,V.int v]) q=some (HO.tup [V.int ↑u,V.int v]):=av;generalize upd c q (HO.tup [V.int ↑u,V.int v])=t at d l|-;show⟨b,_,d _ _ f,by subst g;walk_at "p",?_⟩;have c:bS [a] t (upd t a (HO.ins (cc "Link") b (cA (Str.ofString "goal") (V.ref q) (cA (Str.ofString "holder") (V.ref p) T)))):=bS.upd;have u:upd t a (HO.ins (cc "Link") b (cA (Str.ofString "goal") (V.ref q) (cA (Str.ofString "holder") (V.ref p) T))) a=some (HO.ins (cc "Link") b (cA (Str.ofString "goal") (V.ref q) (cA (Str.ofString "holder") (V.ref p) T))):=av;generalize upd t a (HO.ins (cc "Link") b (cA (Str.ofString "goal") (V.ref q) (cA (Str.ofString "holder") (V.ref p) T)))=v at c u|-;have t:q≠a:=λe=>by rw[e,f]at h;cases h
 show r v (m.trans ((aD.but H _).trans (i.trans ((aD.but d _).trans c)))) ⟨a,p,q,rfl,⟨b,?_⟩,?_,c _ _ (b6 t) l⟩
 . rw[u];subst g;rfl
 . show c _ _ (b6 j.symm) (d _ _ (i _ _ (b6 j.symm) k))
theorem jm.but{k:Lk}(h:jm cc H v k)(a:H p=some (.lst xs))(b:bS [p] H c):jm cc c v k:=by obtain⟨d,x,g,rfl,⟨dx,e⟩,H,c⟩:=h;show⟨d,x,g,rfl,⟨dx,b _ _ (b6 (bF e a (by simp))) e⟩,b _ _ (b6 (bF H a (by simp))) H,b _ _ (b6 (bF c a (by simp))) c⟩
theorem jm.same{k:Lk}(h:jm cc H v k)(s:aD H a):jm cc a v k:=by obtain⟨a,x,g,rfl,o,H,b⟩:=h;show⟨a,x,g,rfl,aD.ob s o,s _ _ H,s _ _ b⟩
noncomputable def nI (t n:Nat) (a:ah Int) (z:Column×Nat):az Lk:=match z.1.kind with
 | .ref u _ b=>if a.getD z.2 0=0 then none else some ⟨t,n,z.2,b,u,a.getD z.2 0⟩
 |_=>none
def fk(a:ah Column)(t n:Nat)(b:ah Int):ah Lk:=a.zipIdx.filterMap (nI t n b)
def lu(s:Schema)(a:Db)(t:Nat):ah Lk:=(tableAt a t).flatMap λr=>fk (columnsOf s t) t r.id r.vals
def cR(s:Schema)(a:Db):ah Lk:=(List.range s.length).flatMap (lu s a)
theorem Ck a t n b:(fk a t n b).length<=a.length:=by unfold fk;show Xi (List.length_filterMap_le _ _) ?_;simp
inductive qw(cc:aC->ai)(f:ah V)(H:Hp)(Q:VK)(g:XK):Prop
 |mk (d:V) (t n:Nat) (e:ai) (c:ah Int) (b:Table) (_:f=[d,.int t,.int n,.ref e]) (_:Eo cc H d b) (_:H e=some (.tup (aG c))) (_:c.length=b.columns.length) (_:b.columns.length<=4) (_:∀p xs a,aD H a->a p=some (.lst xs)->Paired (jm cc a) xs (fk b.columns t n c)->Q (.ref p) a):qw cc f H Q g
theorem vE(h:En P w K B base CT cc I):fc P w K B base CT "links_of_row" 3 ["columns","table","number","row"] (qw cc):=by
 show cg h h.fs.uf ["columns","table","number","row","links","index","column"] λf o A d s H r Q E G u b T=> ?_;obtain⟨E,t,n,N,a,e,rfl,⟨c,d,rfl,o,r⟩,y,f,Q,k⟩:=u
 show⟨_,(aK (aP 4 b.nd (bI ao))
  (aK (cS WT rfl (g4 rfl T.cB (aj (pv 0) ao)) (gf (n:=2) rfl (bU (bh 5 b.nd) (bU (bh 6 b.nd) eO)))
  (au (bz (PW.pt (gK (aQ Hx (aW T.bL T.bR (pw 6)) iM (a_ _)) (gY (aQ fK (bH gh (pw 3) (pw 5)) aO (a_ _)))))
  (au (bP (fB W8 Xl Xq dh (pw 4) (aj (pH (Qs h) G aM (aj (pw 1) (aj (pw 2) (aj (pw 5) (aj (pw 6) (aj (bH gh (pw 3) (pw 5)) ao)))))) ao))))
  aN)))
  (au (aJ (pw 4))))),?_⟩
 left;intro p M;have h:aD H (upd H p (.lst [])):=aD.new M;have b:upd H p (.lst []) p=some (.lst []):=av;generalize upd H p (.lst [])=G at h b|-;have O:d.length=e.columns.length:=aT r;walk_at "l";show⟨_,rfl,c,_,rfl,bG.of (h _ _ o),gv (xs:=d) (λi q f =>MP λ(l m:az V)(xs:ah V)=>Jt (q=[some (.ref c),some (.int t),some (.int n),some (.ref N),some (.ref p),l,m]) (aD H f) (f p=some (.lst xs)) (Paired (jm cc f) xs ((e.columns.zipIdx.take i).filterMap (nI t n a))) (xs.length<=i)) ⟨none,none,[],rfl,h,b,.nil,Wu _⟩ ?_ ?_ ?_⟩;rintro i q f u ⟨l,m,xs,rfl,s,j,z,L⟩;show bG.of (s _ _ o);rintro i x T q h J j ⟨l,m,xs,rfl,H,g,G,L⟩ b E;right;obtain⟨c,h,N,rfl,o⟩:=bB r j;have u:i<e.columns.length:=(Wo.mp h).1;have d:=H.trans b;have H:=aD.ob d o;have A:=bf (λ_ _ D=>jm.same D b) G;obtain⟨v,o⟩:∃v,a[i]? =some v:=⟨_,Wr (by lia)⟩;walk_at "u";have G:a.getD i 0=v:=by rw[Yh,o];rfl
 have r:oA (aG a) (i:Int)=some (.int v):=bJ (by rw[Ws,o];rfl);have C:e.columns.zipIdx.take (i+1)=e.columns.zipIdx.take i++[(c,i)]:=by rw[W7,WX,h];simp
 walk_at "v";show g2 (dO.of E) ?_;left;cases e:c.kind with
 |number lo u=>
  have T:nI t n a (c,i)=none:=by unfold nI;rw[e]
  rw[lU e]at H;show⟨_,H,.non,rfl,.inl ⟨rfl,d,xs,b _ _ g,?_,by lia⟩⟩;rw[C,ZC];simpa[T]using A
 |ref E U u=>
  rw[gJ e]at H;show⟨_,H,_,rfl,.inr ⟨by simp,_,dO.of (d _ _ y),.int v,r,rfl,?_⟩⟩;by_cases h:v=0;have T:nI t n a (c,i)=none:=by unfold nI;rw[e];change(if a.getD i 0=0 then _ else _)=_;rw[G,Wt h]
  show .inl ⟨by rw[h],d,xs,b _ _ g,?_,by lia⟩;rw[C,ZC];simpa[T]using A;have S:nI t n a (c,i)=some ⟨t,n,i,u,E,v⟩:=by unfold nI;rw[e];change(if a.getD i 0=0 then _ else _)=_;rw[G,Wn h]
  show .inr ⟨by simpa using h,?_⟩;show⟨⟨_,bG.of (b _ _ g)⟩,_,dO.of (d _ _ y),.int v,r,λx o T Q R=> ?_⟩;obtain⟨h,G,ob⟩:=D0 (C:=cc "Link") (fs:=[]) T Q R;generalize upd (upd J o (HO.own x)) x (HO.ins (cc "Link") o [])=r at h ob|-;show⟨x,G,N,t,n,i,v,c,E,U,u,rfl,ob,by rw[gJ e];show aD.ob h H,e,λr y Q=>⟨rfl,xs,?_⟩⟩;have o:=aA (b _ _ g) T;have N:=y _ _ (b6 o) (h _ _ (b _ _ g));have G:bS [p] r (upd r p (HO.lst (xs++[V.ref x]))):=bS.upd;show⟨N,by rw[Wx];lia,λH o e=>G _ _ (b6 (aA e M)) (y _ _ (b6 (aA (d _ _ e) T)) (h _ _ (d _ _ e))),?_,by lia⟩;rw[C,ZC];have d:List.filterMap (nI t n a) [(c,i)]=[⟨t,n,i,u,E,v⟩]:=by simp[S]
  rw[d];show abv ?_ (jm.but Q N G);show bf (λv k D=> ?_) A;obtain⟨u,E,i,rfl,⟨N,e⟩,c,d⟩:=D;have a:∀H o,H≠p->J H=some o->upd r p (HO.lst (xs++[V.ref x])) H=some o:=λH o n e=>G _ _ (b6 n) (y _ _ (b6 (aA e T)) (h _ _ e));have h:=b _ _ g;show⟨u,E,i,rfl,⟨N,a _ _ (bF e h (by simp)) e⟩,a _ _ (bF c h (by simp)) c,a _ _ (bF d h (by simp)) d⟩
 rintro q f ⟨l,m,xs,rfl,s,j,z,L⟩;left;show k p xs f s j ?_;rw[W2 (by rw[Xr,O];show Wu _)]at z;show z
theorem NV(e:H d=some (.dK (aL b)))(c:(b.map (·.1)).Perm a)(f:b4 a)(g:a.length<=8)(k:∀p,H p=none->Q (.ref p) (upd H p (.lst (aG (a.map λr=>(r.id:Int)))))):uV [.ref d] H Q:=by
 have H:b.length=a.length:=by have:=c.length_eq;rw[Wl]at this;show this
 show⟨d,aL b,_,rfl,.inl e,gx b,by rw[Wl];lia,λg p H Q a=> ?_⟩;rw[iQ c f H Q];show k p a
inductive vF(cc:aC->ai)(b:ah V)(H:Hp)(Q:VK)(c:XK):Prop
 |mk (sv dv s db) (_:b=[sv,dv]) (_:eL cc H sv s) (_:cV H dv db) (_:AJ s) (_:Qq s db) (_:∀p xs a,aD H a->a p=some (.lst xs)->Paired (jm cc a) xs (cR s db)->xs.length<=128->Q (.ref p) a):vF cc b H Q c
theorem Ew(m:En P w K B base CT cc I):fc P w K B base CT "all_links" 4 ["schema","tables"] (vF cc):=by
 show cg m m.fs.C3 ["schema","tables","links","table","columns","number"] λf j A O s H o Q E x h d T=> ?_;have o:=d8 x;obtain⟨f,O,s,g,rfl,⟨G,M,rfl,A,U⟩,⟨u,e,rfl,N,q⟩,J,j,k⟩:=h
 show⟨_,(aK (aP 2 d.nd (bI ao))
  (aK (cS WT rfl (g4 rfl T.cB (aj (pv 0) ao)) (gf (n:=2) rfl (bU (bh 3 d.nd) (bU (bh 4 d.nd) eO)))
  (au (cS WT rfl (cC (bw (iO rfl) rfl T.gk boot_sorted (aj (bH aY (pv 1) (pv 3)) ao))) (bh 5 d.nd)
  (au (bP (fB W8 Yg YG jH (pw 2) (aj (aR (vE m) x aM (aj (pw 4) (aj (pw 3) (aj (pw 5) (aj (er o (bH aY (pw 1) (pw 3)) (pw 5)) ao))))) ao)))))))
  (au (aJ (pw 2))))),?_⟩
 left;intro p Q;have m:aD H (upd H p (.lst [])):=aD.new Q;have d:upd H p (.lst []) p=some (.lst []):=av;generalize upd H p (.lst [])=x at m d|-;walk_at "l";show⟨_,rfl,G,_,rfl,bG.of (m _ _ A),gv (xs:=M) (λi f a =>OB λ(y z c:az V)(xs:ah V)=>Jt (f=[some (.ref G),some (.ref u),some (.ref p),y,z,c]) (aD H a) (a p=some (.lst xs)) (Paired (jm cc a) xs ((List.range i).flatMap (lu s g))) (xs.length<=32*i)) ⟨none,none,none,[],rfl,m,d,.nil,Wu _⟩ ?_ ?_ ?_⟩;rintro i f a x ⟨y,z,c,xs,rfl,s,v,C,D⟩;show bG.of (s _ _ A);rintro i xA T f m e v ⟨y,z,c,xs,rfl,E,R,X,D⟩ l h;right;obtain⟨t,m,n,Z,rfl,xg,xj⟩:=bB U v;have T:=E.trans l;have x:=(Wo.mp m).1;obtain⟨b,d⟩:∃b,g[i]? =some b:=⟨_,Wr (show i<g.length by rw[j.len];show x)⟩;obtain⟨O,S,o,A,rfl,M,xu,x,Y⟩:=b_ q d;walk_at "u";have xr:tableAt g i=b:=by unfold tableAt;rw[d];rfl
 have L:columnsOf s i=t.columns:=by unfold columnsOf;rw[m];rfl
 have O:=j.few i b d;have W:=j.rD i b d;rw[L]at W;have xh:=J.cols t (Wq m);have m:A.length=b.length:=by have:=x.length_eq;rw[Wl]at this;show this
 walk_at "v";show g2 (dO.of h) ?_;left;show⟨_,rfl,_,rfl,u,_,(i:Int),.ref o,rfl,rfl,bG.of (T _ _ N),bJ S,o,aL A,_,rfl,.inl (T _ _ M),gx A,by rw[Wl];lia,λO q m d j=> ?_⟩;obtain rfl:=iQ x Y m d;generalize O:(List.map V.int (b.map λr=>(r.id:Int)))=d at j|-;have m:d.length=b.length:=by rw[<- O];simp
 have m:aD e (upd e q (.lst d)):=aD.new j;have A:upd e q (.lst d) q=some (.lst d):=av;have xq:q≠p:=λh=>by rw[h,l _ _ R]at j;cases j
 generalize upd e q (.lst d)=j at m A|-;have xx:=T.trans m;show⟨q,rfl,⟨_,bG.of A⟩,dN (xs:=d) (λj f a =>NH λ(c:az V)(e:ah V)=>MQ (f=[some (.ref G),some (.ref u),some (.ref p),some (.int i),some (.ref n),c]) (aD H a) (a q=some (.lst d)) (a p=some (.lst e)) (Paired (jm cc a) e ((List.range i).flatMap (lu s g)++(b.take j).flatMap λr=>fk t.columns i r.id r.vals)) (e.length<=32*i+4*j)) ⟨c,xs,rfl,xx,A,m _ _ (l _ _ R),?_,D⟩ ?_ ?_ ?_⟩;simpa using bf (λ_ _ r=>jm.same r (l.trans m)) X;rintro j f a A ⟨c,e,rfl,d,u,H,q,G⟩;show bG.of u;rintro j xA f T m ⟨c,e,rfl,d,u,H,q,G⟩;rw[<- O,Ws,Ws]at m;cases l:b[j]? with
 |none=>rw[l]at m;cases m
 |some r=>
  rw[l]at m;cases m;have R:=Wq l;have A:=(Wo.mp l).1;obtain⟨A,xx,T⟩:=Wy.mp (x.mem_iff.mpr R);obtain⟨X,m,O⟩:=jk xu x Y xx;rw[T]at m O;left;show⟨⟨_,bG.of H⟩,_,bG.of (d _ _ N),.ref o,bJ S,o,rfl,.ref X,m▸dJ.k (k:=Sum.inl (r.id:Int)) (d _ _ M),?_⟩;show⟨.ref n,i,r.id,X,r.vals,t,rfl,⟨n,Z,rfl,d _ _ xg,bf (λ_ _⟨o,h,M⟩=>⟨o,h,aD.ob d M⟩) xj⟩,d _ _ O,W r R,xh,λY N x m S T=> ?_⟩;have O:=aT T;have O:=Ck t.columns i r.id r.vals;have o:bS [p] x (upd x p (HO.lst (e++N))):=bS.upd;have x:=m _ _ H;show⟨Y,rfl,e,x,N,S,by have:=J.few;rw[Wx];lia,λO M h=>o _ _ (b6 (aA h Q)) (m _ _ (d _ _ h)),o _ _ (b6 xq) (m _ _ u),?_,by lia⟩;have M:b.take (j+1)=b.take j++[r]:=by rw[W7,l];rfl
  rw[M,YB,<- Yc];show eH (bf (λ_ _ A=>jm.but (jm.same A m) x o) q) ?_;simpa using bf (λ_ _ A=>jm.but A x o) T
 rintro f a ⟨c,e,rfl,d,u,H,q,G⟩;show⟨⟨some (.int i),some (.ref n),c,rfl⟩,d,e,H,?_,?_⟩;rw[W2 (by lia)]at q;rw[List.range_succ,YB];have:List.flatMap (lu s g) [i]=b.flatMap λr=>fk t.columns i r.id r.vals:=by simp only[ZG,List.flatMap_nil,XJ];unfold lu;rw[xr,L]
 rw[this];show q
 lia
 rintro f a ⟨y,z,c,xs,rfl,E,v,C,D⟩;left;have m:=J.few;have m:=aT U;show k p xs a E v ?_ (by lia);rw[m]at C;show C
abbrev Pl:=Int×Int
def kk(x:Pl):ah Key:=[Sum.inl x.1,Sum.inl x.2]
theorem LZ(h:kk x=kk y):x=y:=by
 unfold kk at h;injection h with a b
 injection b with h _
 show Z8 (YC a) (YC h)
def nJ(x:Pl):ah Key×V:=(kk x,.bl true)
def Lk.hold(k:Lk):Pl:=((k.t:Int),(k.n:Int))
def Lk.goal(k:Lk):Pl:=((k.u:Int),k.v)
inductive Gone(a:ah Lk)(b:Pl):Pl->Prop
 |base:Gone a b b
 |step (k:Lk):k∈a->k.aw= .cascade->Gone a b k.goal->Gone a b k.hold
theorem L0 a:(jw a=Str.ofString "cascade")↔a= .cascade:=by cases a<;>simp[jw,bN]
theorem JH a:(jw a=Str.ofString "refuse")↔a= .keep:=by cases a<;>simp[jw,bN]
theorem L1 a:(jw a=Str.ofString "clear")↔a= .clear:=by cases a<;>simp[jw,bN]
theorem iE{G:ah Pl}(x:Pl):(d7 (G.map nJ) (kk x)).isSome=decide (x∈G):=by rw[Xg,XG];unfold d7;rw[aad,aa1];constructor;rintro⟨z,a,e⟩;obtain⟨y,h,rfl⟩:=Wy.mp a;have e:=XT e;rw[<- LZ e];show h;intro h;show⟨nJ x,Xc h,by simp[nJ]⟩
theorem rE{h:Type}{p q:h->Bool}:∀{l:ah h},(∀x,p x=true->q x=true)->(∃x∈l,q x=true/\p x=false)->l.countP p<l.countP q
 |[],_,h=>by obtain⟨_,h,_⟩:=h;cases h
 |a::l,b,h=>by
  have c:l.countP p<=l.countP q:=List.countP_mono_left λx _=>b x;rw[List.countP_cons,List.countP_cons];obtain⟨x,q,c,d⟩:=h;rcases WB.mp q with rfl|q
  rw[c,d];simp
  lia
  have h:=rE (l:=l) b ⟨x,q,c,d⟩;by_cases h:p a=true;rw[Wt h,Wt (b a h)]
  lia
  rw[Wn h]
  lia
def cnt(a:ah Lk)(G:ah Pl):Nat:=a.countP λk=>decide (k.hold∉G)
theorem L3{a:ah Lk}{G:ah Pl}{k:Lk}(b:k∈a)(h:k.hold∉G):cnt a (G++[k.hold])<cnt a G:=by show rE (λx a=> ?_) ⟨k,b,WK h,WC (by simp)⟩;have:=XT a;show WK λz=>this (Xw _ z)
structure GI(ks:ah Lk)(x0:Pl)(G:ah Pl):Prop where
 nd:G.Nodup
 has:x0∈G
 go:∀x∈G,Gone ks x0 x
 few:G.length+cnt ks G<=ks.length+1
def GX(a:ah Lk)(G:ah Pl):Prop:=∀k∈a,k.aw= .cascade->k.goal∈G->k.hold∈G
theorem GI.all(g:GI a h G)(c:GX a G) x:x∈G↔Gone a h x:=by
 show⟨g.go x,λh=> ?_⟩
 induction h with
 |base=>show g.has
 |step k h a _ x=>show c k h a x
theorem GI.snoc{k:Lk}(g:GI h e G)(b:k∈h)(d:k.aw= .cascade)(c:k.goal∈G)(a:k.hold∉G):GI h e (G++[k.hold]):=by
 show⟨nY g.nd a,Xw _ g.has,λx e=> ?_,?_⟩;rcases W0.mp e with h|h
 show g.go x h;rw[Xd.mp h];show .step k b d (g.go _ c);have:=L3 b a;have:=g.few;rw[WY];simp only[WG,Xj]
 lia
inductive Iq(cc:aC->ai)(g:ah V)(H:Hp)(Q:VK)(h:XK):Prop
 |mk (f c:ai) (xs:ah V) (e:ah Lk) (b:Pl) (_:g=[.ref f,.ref c]) (_:H f=some (.lst xs)) (_:Paired (jm cc H) xs e) (_:xs.length<=128) (_:H c=some (.tup [.int b.1,.int b.2])) (_:∀(d:ai)(G:ah Pl)(a :Hp),aD H a->a d=some (.dT (G.map nJ))->G.Nodup->(∀x,x∈G↔Gone e b x)->Q (.ref d) a):Iq cc g H Q h
theorem Cm(M:En P w K B base CT cc I):fc P w K B base CT "going_with" 1 ["links","first"] (Iq cc):=by
 show cg M M.fs.Bo ["links","first","going","grown","link"] λxQ xP xG xY xZ H x6 xM xH xC xr s T=> ?_;have y:=d8 xC;obtain⟨A,n,xs,c,l,rfl,S,R,xW,O,k⟩:=xr
 show⟨_,(aK (aP 2 s.nd (K8 y (pv 1) kX))
  (aK (aP 3 s.nd kX)
  (aK (jQ WT (dg (pv 3))
  (aE (aP 3 s.nd kX)
  (au (cS WT rfl (cC (pv 0)) (bh 4 s.nd)
  (au (bz (PW.pt (gK (aQ cM (aW T.cK T.dW (pv 4)) (cG rfl T.lg) (a_ _)) (gK (gX (m9 y (aW T.cK T.fM (pv 4)) (pv 2))) (gY (gX (fW y (aW T.cK T.dS (pv 4)) (pv 2)))))))
  (aE (iT y (pv 2) (aW T.cK T.dS (pv 4)) kX rfl)
  (au (aP 3 s.nd kX)))
  aN))))))
  (au (aJ (pv 2)))))),?_⟩
 left;have xV:=aT R;intro p E;have xx:n≠p:=aA O E;show⟨.ref n,rfl,.ref n,.bl true,n,kk l,rfl,av,rfl,by rw[aF xx];show O,?_⟩;rw[lH];have xh:aD H (upd H p (.dT [(kk l,.bl true)])):=aD.new E;have Y:upd H p (.dT [(kk l,.bl true)]) p=some (.dT ([l].map nJ)):=av;generalize upd H p (.dT [(kk l,.bl true)])=xJ at xh Y|-;left;left;show⟨λxg t h =>MP λ(b:Bool)(g:az V)(G:ah Pl)=>MQ (t=[some (.ref A),some (.ref n),some (.ref p),some (.bl b),g]) (aD H h) (h p=some (.dT (G.map nJ))) (GI c l G) ((b=false->GX c G)) (xg=2*cnt c G+(if b=true then 1 else 0)),⟨_,true,none,[l],rfl,xh,Y,⟨by simp,by simp,λxF F=> ?_,?_⟩,(λz=>by cases z),rfl⟩,?_⟩;rw[Xd.mp F];show .base;have:cnt c [l]<=c.length:=List.countP_le_length;simp only[WG,Xj]
 lia
 rintro xg t xj ⟨b,g,G,rfl,J,Z,D,xu,rfl⟩;left;cases b with
 |false=>simp;left;show k p G xj J Z D.nd (D.all (xu rfl))
 |true=>
  simp;show⟨λC h =>MP λ(b:Bool)(g:az V)(a :ah Pl)=>Jt (C =[some (.ref A),some (.ref n),some (.ref p),some (.bl b),g]) (aD H h) (h p=some (.dT (a.map nJ))) (GI c l a) (((b=false/\a =G/\GX c G)∨(b=true/\cnt c a <cnt c G))),?_,?_⟩;rintro C h ⟨b,g,a,rfl,e,i,j,⟨rfl,rfl,o⟩|⟨rfl,X⟩⟩;show⟨2*cnt c a,by lia,.inl ⟨⟨g,rfl⟩,e,a,i,j,o,rfl⟩⟩;show⟨2*cnt c a +1,by lia,.inr ⟨⟨g,rfl⟩,e,a,i,j,rfl⟩⟩;show⟨_,rfl,A,rfl,⟨_,bG.of (J _ _ S)⟩,dN (xs:=xs) (λq C h =>MP λ(b:Bool)(g:az V)(a :ah Pl)=>Jt (C =[some (.ref A),some (.ref n),some (.ref p),some (.bl b),g]) (aD H h) (h p=some (.dT (a.map nJ))) (GI c l a) (((b=false/\a =G/\∀k∈c.take q,k.aw= .cascade->k.goal∈G->k.hold∈G)∨(b=true/\cnt c a <cnt c G)))) ⟨false,g,G,rfl,J,Z,D,.inl ⟨rfl,rfl,λk m=>by simp at m⟩⟩ ?_ ?_ ?_⟩;rintro q t h xU ⟨b,g,a,rfl,e,_⟩;show bG.of (e _ _ S);rintro q xF t xK F ⟨b,g,a,rfl,e,i,j,f⟩;obtain⟨d,U,xN,xS,xR,rfl,xB,Q,xA⟩:=bB R F;have W:=Wq U;have x:=aD.ob e xB;have xE:c.take (q+1)=c.take q++[d]:=by rw[W7,U];rfl
  have mU:(d.aw= .cascade->d.goal∈a->d.hold∈a)->((b=false/\a =G/\∀k∈c.take (q+1),k.aw= .cascade->k.goal∈G->k.hold∈G)∨(b=true/\cnt c a <cnt c G)):=by
   intro v;rcases f with⟨rfl,rfl,f⟩|f
   show .inl ⟨rfl,rfl,λk m=> ?_⟩;rw[xE]at m;rcases W0.mp m with m|m
   show f k m;rw[Xd.mp m];show v;show .inr f
  left;show⟨_,x,_,rfl,rfl,?_⟩;have N:(V.str (jw d.aw)=V.str (Str.ofString "cascade"))↔d.aw= .cascade:=by rw[V.str.injEq,L0]
  by_cases o:d.aw= .cascade;rw[Wt (N.mpr o)];show⟨_,x,_,rfl,_,dJ.t i (k:=kk d.goal) (e _ _ xA),?_⟩;by_cases u:d.goal∈a;rw[Wt (by rw[iE];show WK u)];show⟨_,x,_,rfl,_,dJ.t i (k:=kk d.hold) (e _ _ Q),?_⟩;by_cases r:d.hold∈a;rw[Wn (λz=>by have:=iE (G:=a) d.hold;rw[z,WK r]at this;cases this)];show⟨e,a,i,j,mU λ_ _=>r⟩;have v:d7 (a.map nJ) (kk d.hold)=none:=by have:=iE (G:=a) d.hold;rw[WC r]at this;simpa using this
  rw[Wt v];have xT:=j.few;show⟨_,x,_,rfl,_,m8.t i (k:=kk d.hold) (e _ _ Q) (by rw[Wl,Wx];lia),?_⟩;rw[jS _ v];have xq:a.map nJ++[(kk d.hold,V.bl true)]=(a ++[d.hold]).map nJ:=by rw[WZ];rfl
  rw[xq];have X:=L3 W r;show⟨λxO xX L=>by rw[aF (aA L E)];show e _ _ L,_,av,j.snoc W o u r,?_⟩;rcases f with⟨_,rfl,_⟩|⟨_,f⟩
  show X
  lia
  rw[Wn (by rw[iE,WC u];simp)];show⟨e,a,i,j,mU λ_ z=>absurd z u⟩;rw[Wn (λz=>o (N.mp z))];show⟨e,a,i,j,mU λz=>absurd z o⟩;rintro t h ⟨b,g,a,rfl,e,i,j,f⟩;show⟨b,g,a,rfl,e,i,j,?_⟩;rcases f with⟨rfl,rfl,f⟩|f
  rw[W2 (by lia)]at f;show .inl ⟨rfl,rfl,f⟩;show .inr f
def cZ(G:ah Pl)(k:Lk):Bool:=decide (k.aw= .keep)&&decide (k.goal∈G)&&decide (k.hold∉G)
inductive vG(cc:aC->ai)(c:ah V)(H:Hp)(Q:VK)(e:XK):Prop
 |mk (b d:ai) (xs:ah V) (a:ah Lk) (G:ah Pl) (_:c=[.ref b,.ref d]) (_:H b=some (.lst xs)) (_:Paired (jm cc H) xs a) (_:H d=some (.dT (G.map nJ))) (_:(a.find? (cZ G)=none->Q .non H)) (_:(∀v k,a.find? (cZ G)=some k->jm cc H v k->Q v H)):vG cc c H Q e
theorem rF(m:En P w K B base CT cc I):fc P w K B base CT "first_refusing" 1 ["links","going"] (vG cc):=by
 show cg m m.fs.qN ["links","going","link"] λW U N xh xj H xq R O E x M T=> ?_;have r:=d8 E;obtain⟨s,u,xs,l,G,rfl,q,p,o,J,k⟩:=x
 show⟨_,(aK (cS WT rfl (cC (pv 0)) (bh 2 M.nd)
  (au (bz (PW.pt (gK (aQ cM (aW T.cK T.dW (pw 2)) (cG rfl T.nu) (a_ _)) (gK (gX (m9 r (aW T.cK T.fM (pw 2)) (pw 1))) (gY (gX (fW r (aW T.cK T.dS (pw 2)) (pw 1)))))))
  (au (aJ (pw 2)))
  aN)))
  (au (aJ iM))),?_⟩
 left;have xg:xs.length=l.length:=aT p;show⟨_,rfl,s,rfl,⟨_,bG.of q⟩,dN (xs:=xs) (λj g h =>QN λ(v:az V)=>OD (g=[some (.ref s),some (.ref u),v]) (h =H) (l.find? (cZ G)=(l.drop j).find? (cZ G))) ⟨none,rfl,rfl,rfl⟩ ?_ ?_ ?_⟩;rintro j g h Z ⟨v,rfl,rfl,_⟩;show bG.of q;rintro j xr g Q F ⟨v,rfl,rfl,e⟩;right;obtain⟨a,C,t⟩:=bB p F;have L:=t;obtain⟨S,Y,X,rfl,i,A,y⟩:=t;rw[jZ C,XO]at e;have n:(V.str (jw a.aw)=V.str (Str.ofString "refuse"))↔a.aw= .keep:=by rw[V.str.injEq,JH]
 left;show⟨_,i,_,rfl,rfl,?_⟩;by_cases f:a.aw= .keep;rw[Wt (n.mpr f)];show⟨_,i,_,rfl,_,dJ.t o (k:=kk a.goal) y,?_⟩;by_cases c:a.goal∈G;rw[Wt (by rw[iE];show WK c)];show⟨_,i,_,rfl,_,dJ.t o (k:=kk a.hold) A,?_⟩;by_cases d:a.hold∈G;rw[Wn (λz=>by have:=iE (G:=G) a.hold;rw[z,WK d]at this;cases this)];have b:cZ G a=false:=by unfold cZ;simp[d]
 rw[b]at e;show e;have D:d7 (G.map nJ) (kk a.hold)=none:=by have:=iE (G:=G) a.hold;rw[WC d]at this;simpa using this
 rw[Wt D];have b:cZ G a=true:=by unfold cZ;simp[d,c,f]
 rw[b]at e;show k _ a e L;rw[Wn (by rw[iE,WC c];simp)];have b:cZ G a=false:=by unfold cZ;simp[c]
 rw[b]at e;show e;rw[Wn (λz=>f (n.mp z))];have b:cZ G a=false:=by unfold cZ;simp[f]
 rw[b]at e;show e;rintro g h ⟨v,rfl,rfl,e⟩;left;show J ?_;rw[e,Xk (by lia)];rfl
theorem kM{a:Type}{J:It}{g:TG}{t:L2.TT}{q:TE}{h:ah Nat}{n:L2.St}{e:Hp}{Q:VK}(c:ah a)(keep:a->Bool)(Y:a->V->Hp->Prop)(j:ai->Hp->a->V->Prop)(d:c.length<sizeLine)
 (p:∀D H a z y,j D H z y->bS [D] H a->j D a z y) (u:∀i H,i<c.length->aD e H->J.go i H) (v:∀H,aD e H->J.stop c.length H)
 (w:∀i z H x a,c[i]? =some z->aD e H->J.BE i H x a->aD H a/\Y z x a)
 (A:∀D z x H(o:VK)(m:Hp->Prop),z∈c->e D=none->aD e H->(∃acc,H D=some (.lst acc))->Y z x H->(keep z=true->∀y f,aD H f->j D f z y->o y f)->(keep z=false->∀f,aD H f->m f)->
   g x (d9 n h) H λd l=>d9 d h=d9 n h/\t d l λb k=>if b=true then q d k o else m k)
 (Y:∀D d a,e D=none->aD e a->a D=some (.lst d)->Paired (λy z=>j D a z y) d (c.filter keep)->Q (.ref D) a):rB J g t q h n e Q:=by
 intro D m;show⟨λi n a =>n=c.length-i/\i<=c.length/\aD e a/\∃d,a D=some (.lst d)/\Paired (λy z=>j D a z y) d ((c.take i).filter keep),⟨_,rfl,Xb _,λb t h=>by rw[aF (aA h m)];show h,[],av,.nil⟩,?_⟩;rintro i n H ⟨rfl,q,s,d,o,k⟩
 have n:d.length<=i:=by
  have n:=aT k;have n:=X3 keep (c.take i);rw[Xo]at n
  lia
 by_cases n:i<c.length;show .inr ⟨u i H n s,λa =>aD e a/\∃d,a D=some (.lst d)/\Paired (λy z=>j D a z y) d ((c.take (i+1)).filter keep),λa Q=>⟨_,Ye _ _ n,rfl,n,Q⟩,λx l q=> ?_⟩;have j:=Wr n;generalize c[i]=z at j;obtain⟨a,u⟩:=w i z H x l j s q;have Q:c.take (i+1)=c.take i++[z]:=by rw[W7,j];rfl
 show A D z x l _ _ (Wq j) m (s.trans a) ⟨d,a _ _ o⟩ u (λn y f e q=> ?_) (λn f e=> ?_);show⟨d,e _ _ (a _ _ o),by lia,λb t h=> ?_,d++[y],av,?_⟩;rw[aF (aA h m)];show e _ _ (a _ _ (s _ _ h));rw[Q,XW];have l:List.filter keep [z]=[z]:=by simp[n]
 rw[l];show abv (bf (λj f r=>p D _ _ f j (p D _ _ f j r (aD.but (a.trans e) _)) bS.upd) k) (p D _ _ z y q bS.upd);show⟨(s.trans a).trans e,d,e _ _ (a _ _ o),?_⟩;rw[Q,XW];have l:List.filter keep [z]=[]:=by simp[n]
 rw[l,XJ];show bf (λj f r=>p D _ _ f j r (aD.but (a.trans e) _)) k;have h:i=c.length:=by lia
 subst h;rw[Y0]at k;show .inl ⟨v H s,Y D d H m s o k⟩
theorem gR{a:Type}(l:ah a):l.filter (λ_=>true)=l:=by simp
theorem jn{K:ay}(d:bG K b c xs):(∀i H,i<xs.length->aD b H->(CG K c).go i H)/\(∀H,aD b H->(CG K c).stop xs.length H)/\∀i z H x a,xs[i]? =some z->aD b H->(CG K c).BE i H x a->a =H/\x=z:=by show⟨λi H c s=>⟨xs,xs[i],s.seq d,by simp[c]⟩,λH s=>⟨xs,s.seq d,Wu _⟩,λi z H x a b s h=> ?_⟩;obtain⟨e,y⟩:=h;show⟨e,?_⟩;rw[y xs (s.seq d)]at b;show W5 b
theorem rG(e:c d=some (.dI od (.dK (aL a)))):(∀i H,i<a.length->aD c H->(QM d od (aL a)).go i H)/\(∀H,aD c H->(QM d od (aL a)).stop a.length H)/\∀i z H x b,a[i]? =some z->aD c H->(QM d od (aL a)).BE i H x b->b =H/\x= .int (z.1.id:Int):=by
 have c:(aL a).length=a.length:=by unfold aL;rw[Wl]
 show⟨λi H a s=>⟨s _ _ e,by lia⟩,λH s=>⟨s _ _ e,by lia⟩,λi z H x b c s h=> ?_⟩;obtain⟨e,k,v,a,rfl⟩:=h;show⟨e,?_⟩;unfold aL at a;rw[Ws,c]at a;cases a;rfl
theorem GY{K:ay}(c:bG K s b xs):(∀i H,i<xs.length->aD s H->(Nr K b).go i H)/\(∀H,aD s H->(Nr K b).stop xs.length H)/\∀i z H x a,xs[i]? =some z->aD s H->(Nr K b).BE i H x a->aD H a/\∃T,x= .ref T/\a T=some (.tup [.int (i:Nat),z]):=by show⟨λi H d s=>⟨xs,xs[i],s.seq c,by simp[d]⟩,λH s=>⟨xs,s.seq c,Wu _⟩,λi z H x a b s h=> ?_⟩;obtain⟨T,y,rfl,a,rfl,d⟩:=h;rw[d xs (s.seq c)]at b;cases b;show⟨aD.new a,T,rfl,av⟩
theorem Cp{K:ay}(d:s c=some (.tup a)):(∀i H,i<a.length->aD s H->(Ln K c a).go i H)/\(∀H,aD s H->(Ln K c a).stop a.length H)/\∀i z H x b,a[i]? =some z->aD s H->(Ln K c a).BE i H x b->aD H b/\∃T,x= .ref T/\b T=some (.tup [.int (i:Nat),z]):=by show⟨λi H c s=>⟨dO.of (s _ _ d),c⟩,λH s=>⟨dO.of (s _ _ d),rfl⟩,λi z H x b a s h=> ?_⟩;obtain⟨T,y,rfl,s,rfl,c⟩:=h;rw[c]at a;cases a;show⟨aD.new s,T,rfl,av⟩
theorem se{od:aV}(f:H d=some u)(c:bS [d] H a)(s:aD a e):aD H (upd e d u):=by intro b o e;by_cases a:b=d;rw[a,f]at e;rw[a,av];show e;rw[aF a];show s _ _ (c _ _ (by simpa using a) e)
theorem GZ{a:ah ai}{i:Nat}{d:ai}(h:(a.map V.ref)[i]? =some (V.ref d)):a[i]? =some d:=by
 rw[Ws]at h;cases e:a[i]? with
 |none=>rw[e]at h;cases h
 |some a=>rw[e]at h;cases h;rfl
theorem bT{t:Nat}(h:a[t]? =some b):tableAt a t=b:=by unfold tableAt;rw[h];rfl
theorem Ex{H:Hp}{b:ah ai}{g:Db}{t:Nat}{d n:ai}{r:aB}(K:b.Nodup)(m:Paired (dm H) (b.map V.ref) g)(s:b[t]? =some d)(v:H n=some (.tup (aG r.vals))):
 ∃c,H d=some (.dK (aL c))/\c.length=(tableAt g t).length/\Paired (dm (upd H d (.dK (fV (aL c) (Sum.inl (r.id:Int)) (.ref n))))) (b.map V.ref) (putRow g t r):=by
 have y:(b.map V.ref)[t]? =some (V.ref d):=by rw[Ws,s];rfl
 have J:b.length=g.length:=by have:=aT m;rw[Wl]at this;show this
 obtain⟨Q,u,T,c,k,h,x,B,P⟩:=bB m y;cases k;have w:=bT u;have M:c.length=Q.length:=by have:=B.length_eq;rw[Wl]at this;show this
 show⟨c,h,by rw[w,M],?_⟩;obtain⟨e,C,D,E,F⟩:=Et B P r n;rw[C];have f:bS [d] H (upd H d (.dK (aL e))):=bS.upd;have q:upd H d (.dK (aL e)) d=some (.dK (aL e)):=av;generalize upd H d (.dK (aL e))=S at f q|-;unfold putRow;rw[w];show gQ (by rw[Wl,XM];show J) λO X U j i=> ?_;have N:=(Wo.mp u).1;by_cases l:O=t;subst l;rw[y]at j;cases j;rw[Xe N]at i;cases i;show⟨d,e,rfl,q,λz a=> ?_,E,F⟩;rcases D z a with rfl|a
 show f _ _ (b6 (bF v h (by simp))) v;show f _ _ (b6 (bF (x z a) h (by simp))) (x z a);rw[Xn (λz=>l z.symm)]at i;obtain⟨W,A,o,R,rfl,G,p,I⟩:=b_ m i;rw[A]at j;cases j;have L:o≠d:=λk=>by subst k;show l (qt K (GZ A) s)
 show⟨o,R,rfl,f _ _ (b6 L) G,λz a=>f _ _ (b6 (bF (p z a) h (by simp))) (p z a),I⟩
theorem sf(h:Paired (λy z=>∃q,y=V.ref q/\R q z) b c):∃a,b=a.map V.ref/\Paired R a c:=by
 induction h with
 |nil=>show⟨[],rfl,.nil⟩
 |cons r _ d=>obtain⟨q,h,R⟩:=r;obtain⟨a,b,c⟩:=d;show⟨q::a,by rw[h,b];rfl,.cons R c⟩
theorem sj(h:Paired (λx y=>R x (f y)) xs a):Paired R xs (a.map f):=by
 induction h with
 |nil=>show .nil
 |cons r _ f=>show .cons r f
theorem tP(b:(h.map (·.1)).Perm a)(f:b4 a):((aL h).map (·.1)).Nodup:=by
 rw[gx];have e:(h.map λz=>(z.1.id:Int)).Perm (a.map λr=>(r.id:Int)):=by have:=b.map (λr:aB=>(r.id:Int));rw[WN]at this;show this
 have d:(a.map λr=>(r.id:Int)).Nodup:=by unfold List.Nodup;rw[W9];show f.imp λ{b c} h=>by lia
 have a:=e.nodup_iff.mpr d;unfold List.Nodup at a|-;rw[W9];show a.imp λ{b c} h e=>h (YC e)
theorem JJ{H:Hp}{a:nF}{h:ah aB}(f:∀z∈a,H z.2=some (.tup (aG z.1.vals)))(y:(a.map (·.1)).Perm h)(d:b4 h){z:aB×ai}(b:z∈a){c:ai}(e:d7 (aL a) (Sum.inl (z.1.id:Int))=some (.ref c)):z.2=c:=by
 have c:=tP y d;clear f y d h
 induction a with
 |nil=>cases b
 |cons y a f=>
  unfold aL d7 at e;rw[WM,XO]at e;rcases WB.mp b with rfl|b
  simp at e;show e;have d:y.1.id≠z.1.id:=by intro h;rw[aL,WM,WM]at c;show(XF.mp c).1 ?_;rw[WN];show Wy.mpr ⟨z,b,?_⟩;change(Sum.inl (z.1.id:Int):Key)=Sum.inl (y.1.id:Int);rw[h]
  have a:decide ((Sum.inl (y.1.id:Int):Key)=Sum.inl (z.1.id:Int))=false:=WC λh=>d (by have:=YC h;lia);simp only[a]at e;show f b e ?_;rw[aL,WM,WM]at c;show(XF.mp c).2
def Ey(t:Nat)(r:aB):Pl:=((t:Int),(r.id:Int))
def iL(G:ah Pl)(t:Nat)(r:aB):Bool:=decide (Ey t r∉G)
def iR(G:ah Pl)(a:Db):Db:=a.zipIdx.map λx=>x.1.filter (iL G x.2)
noncomputable def clears (G:ah Pl) (k:Lk):Bool:=decide (k.aw= .clear)&&decide (k.goal∈G)&&decide (k.hold∉G)
noncomputable def ck (k:Lk) (t:Nat) (r:aB):VauowBase.Row:=if k.t=t/\k.n=r.id then{r with vals:=r.vals.set k.c 0}else r
def f9(G:ah Pl)(a:Db)(k:Lk):Db:=if clears G k=true then a.zipIdx.map λx=>x.1.map (ck k x.2)else a
inductive nK(a:Db)(k:Lk):Prop
 |mk (rows r) (_:a[k.t]? =some rows) (_:r∈rows) (_:r.id=k.n) (_:k.c<r.vals.length) (_:r.vals.length<=4) (_:rows.length<=8):nK a k
theorem OU k t r:(ck k t r).id=r.id:=by unfold ck;split<;>rfl
theorem G0 k t r:(ck k t r).vals.length=r.vals.length:=by unfold ck;split;show XM;rfl
theorem nK.ck{k a:Lk}(h:nK b k):nK (b.zipIdx.map λx=>x.1.map (DL.ck a x.2)) k:=by obtain⟨g,r,b,x,c,d,e,f⟩:=h;show⟨g.map (DL.ck a k.t),DL.ck a k.t r,?_,Xc x,by rw[OU];show c,by rw[G0];show d,by rw[G0];show e,by rw[Wl];show f⟩;rw[Ws,WX,b];simp
theorem Qt{k:Lk}(a:b[k.t]? =some c)(z:r∈c)(q:r.id=k.n)(d:b4 c):putRow b k.t {id:=k.n,vals:=r.vals.set k.c 0}=b.zipIdx.map λx=>x.1.map (ck k x.2):=by
 unfold putRow;rw[bT a];show Yd λj=> ?_;rw[Ws,WX];have x:=(Wo.mp a).1;by_cases c:j=k.t;subst c;rw[Xe x,a];simp only[Yi,XS];congr 1;rw[gw d ⟨r,z,q⟩];show Xv λq x=> ?_;unfold ck;by_cases a:q.id=k.n;have:=fQ d x z (by lia);subst this;rw[Wt a,Wt ⟨rfl,a.symm⟩,<- a];rw[Wn a,Wn (λz=>a z.2.symm)];rw[Xn (λz=>c z.symm)];cases e:b[j]? with
 |none=>rfl
 |some x=>simp only[Yi,XS];congr 1;rw[Xv (g:=id) λq _=>by unfold ck;rw[Wn (λz=>c z.1.symm)];rfl,List.map_id]
theorem nK.keep{k:Lk}(h:nK a k)(g:k.hold∉G):nK (iR G a) k:=by obtain⟨i,r,b,c,a,d,e,f⟩:=h;show⟨i.filter (iL G k.t),r,?_,W_.mpr ⟨c,?_⟩,a,d,e,Xi (X3 _ _) f⟩;unfold iR;rw[Ws,WX,b];simp;unfold iL Ey;rw[a];show WK g
theorem nK.fold{G:ah Pl}{k:Lk}:∀(b:ah Lk)(a:Db),nK a k->nK (b.foldl (f9 G) a) k
 |[],_,h=>h
 |c::b,a,h=>by rw[YW];show nK.fold b _ ?_;unfold f9;split;show nK.ck h;show h
inductive AO(K:ay)(cc:aC->ai)(g:ah V)(H:Hp)(Q:VK)(h:XK):Prop
 |mk (e:V) (f d:ai) (xs:ah V) (c:ah Lk) (G:ah Pl) (a:Db) (_:g=[e,.ref f,.ref d]) (_:cV H e a) (_:a.length<=4) (_:(∀i∈a,i.length<=8)) (_:H f=some (.lst xs)) (_:Paired (jm cc H) xs c) (_:(∀k∈c,nK a k)) (_:H d=some (.dT (G.map nJ))) (_:∀v b,aD H b->cV b v (c.foldl (f9 G) (iR G a))->Q v b):AO K cc g H Q h
theorem JK(f:En P w K B base CT cc I):fc P w K B base CT "without" 2 ["tables","links","going"] (AO K cc):=by
 show cg f f.fs.IX ["tables","links","going","others","table","rows","link","staying","number"] λN a A W s H j Q E L y sc T=> ?_;have a:=d8 L;obtain⟨Y,xK,xF,xs,S,G,v,rfl,⟨xG,xM,rfl,t,N⟩,j,W,xP,xO,xY,xx,k⟩:=y
 show⟨_,(aK (aP 3 sc.nd (bI ao))
  (aK (cS WT rfl (g4 rfl T.cB (aj (pv 0) ao)) (gf (n:=2) rfl (bU (bh 4 sc.nd) (bU (bh 5 sc.nd) eO)))
  (au (bP (fB W8 Xl Xq dh (pw 3) (aj (dH (uS rfl) rfl T.q7 boot_dict (aj (qc (ju (own:=[("number",8)]) rfl sc.nd (BX (pv 5)) (cY (N:=["tables","links","going","others","table","rows","link","staying","number"]) (sc:=bD z9) (by decide+kernel)) (λ_ _ _ _ _=>(bh 8 sc.nd)) (λ_ _ _ _ _=>p_ (gX (fW a (iN (aj (pw 4) (aj (pw 8) ao))) (pw 2)))) (λ_ _ _ _ _=>(iN (aj (pw 8) (aj (er a (pw 5) (pw 8)) ao)))))) ao)) ao)))))
  (aK (cS WT rfl (cC (pv 1)) (bh 6 sc.nd)
  (au (bz (PW.pt (gK (aQ cM (aW T.cK T.dW (pw 6)) (cG rfl T.qh) (a_ _)) (gK (gX (m9 a (aW T.cK T.fM (pw 6)) (pw 2))) (gY (gX (fW a (aW T.cK T.dS (pw 6)) (pw 2)))))))
  (aE (aP 7 sc.nd (bH aY (pw 3) (aW T.cK T.fX (pw 6))))
  (au (iT a (pw 7) (aW T.cK T.eG (pw 6)) (aR (jE f) L aM (aj (er a (pw 7) (aW T.cK T.eG (pw 6))) (aj (aW T.cK T.fY (pw 6)) (aj aO ao)))) rfl)))
  aN)))
  (au (aJ (pw 3)))))),?_⟩
 have x6:xM.length=v.length:=aT N;have xX:xs.length=S.length:=aT xO;left;intro p xQ;have a:aD H (upd H p (.lst [])):=aD.new xQ;have f:upd H p (.lst []) p=some (.lst []):=av;generalize upd H p (.lst [])=L at a f|-;walk_at "l";show⟨_,rfl,xG,_,rfl,bG.of (a _ _ t),gv (xs:=xM) (λi q d =>R3 λ(xq xr g h xu:az V)(b:ah ai)=>MQ (q=[some (.ref xG),some (.ref xK),some (.ref xF),some (.ref p),xq,xr,g,h,xu]) (aD H d) (d p=some (.lst (b.map V.ref))) (b.Nodup) ((∀x∈b,H x=none/\d x≠none)) (Paired (dm d) (b.map V.ref) ((iR G v).take i))) ⟨none,none,none,none,none,[],rfl,a,f,YQ,(λx Q=>by cases Q),.nil⟩ ?_ ?_ ?_⟩
 . rintro i q d xW ⟨xq,xr,g,h,xu,b,rfl,X,_⟩;show bG.of (X _ _ t)
 . rintro i x T q xB s Q ⟨xq,xr,g,h,xu,b,rfl,X,xJ,xH,xg,xh⟩ c L;right;obtain⟨E,xR,f,T,rfl,a,xj,U,D⟩:=bB N Q;walk_at "u";have J:=X.trans c;have N:T.length=E.length:=(by have:=U.length_eq;rw[Wl]at this;show this);have xT:=W E (Wq xR);walk_at "v";show g2 (dO.of L) ?_;left;have l:=c _ _ xJ;show⟨⟨_,bG.of l⟩,f,_,J _ _ a,True.intro,λod=> ?_⟩;have xZ:=J _ _ a;have j:upd s f (HO.dI od (.dK (aL T))) f=some (.dI od (.dK (aL T))):=av;have A:bS [f] s (upd s f (HO.dI od (.dK (aL T)))):=bS.upd;generalize upd s f (HO.dI od (.dK (aL T)))=xC at j A|-;have e:∀z∈T,xC z.2=some (.tup (aG z.1.vals)):=λz m=>A _ _ (b6 (bF (xj z m) a (by simp))) (J _ _ (xj z m));have Z:xC xF=some (.dT (G.map nJ)):=A _ _ (b6 (bF xx a (by simp))) (J _ _ xx);rw[gj];show⟨_,rfl,f,od,rfl,.inl ⟨_,j,?_⟩⟩;dsimp only;have sz:(2:Nat)<=sizeLine:=(by rw[Wx];lia);show kM T (λz=>iL G i z.1) (λz x _=>x= .int (z.1.id:Int)) (λL H z C=>∃W,C= .ref W/\W≠L/\H W=some (.tup [.int (z.1.id:Int),.ref z.2])) (by rw[Wx];lia) ?_ (rG j).1 (rG j).2.1 ?_ ?_ ?_
   . rintro L a t z C ⟨W,rfl,N,y⟩ u;show⟨W,rfl,N,u _ _ (b6 N) y⟩
   . intro o z a x t m N R;obtain⟨rfl,rfl⟩:=(rG j).2.2 o z a x t m N R;show⟨aD.refl _,rfl⟩
   . rintro L z x t N a m O Y ⟨acc,xV⟩ rfl x8 xA;obtain⟨xE,xN,xU⟩:=jk e U D m;have x9:z.2=xE:=JJ e U D m xN;left;show⟨sz,λe N=> ?_⟩;have a:aD t (upd t e (.tup [.int (i:Nat),.int (z.1.id:Nat)])):=aD.new N;have N:upd t e (.tup [.int (i:Nat),.int (z.1.id:Nat)]) e=some (.tup [.int (i:Nat),.int (z.1.id:Nat)]):=av;generalize upd t e (.tup [.int (i:Nat),.int (z.1.id:Nat)])=M at a N|-;show⟨_,dJ.t (a _ _ (Y _ _ Z)) (k:=kk (Ey i z.1)) N,?_⟩;by_cases N:Ey i z.1∈G
     . rw[Wn (λe=>by have:=iE (G:=G) (Ey i z.1);rw[e,WK N]at this;cases this)];show xA (by unfold iL;rw[WC (λe=>e N)]) M a
     . have Z:d7 (G.map nJ) (kk (Ey i z.1))=none:=(by have:=iE (G:=G) (Ey i z.1);rw[WC N]at this;simpa using this);rw[Wt Z];show⟨.ref xE,.inl ⟨_,Sum.inl (z.1.id:Int),.inr ⟨od,a _ _ (Y _ _ j)⟩,rfl,xN.symm⟩,sz,λxS xA=> ?_⟩;show x8 (by unfold iL;rw[WK N]) _ _ (a.trans (aD.new xA)) ⟨xS,rfl,(λe=>by rw[e,a _ _ xV]at xA;cases xA),by rw[av,x9]⟩
   . intro L xA t O Y xN a;obtain⟨x8,rfl,xV⟩:=sf a;have xS:L≠f:=λe=>(by rw[e,j]at O;cases O);have xA:=se (od:=od) xZ A Y;have un:∀u A,u≠f->t u=some A->upd t f (.dK (aL T)) u=some A:=λu A n e=>(by rw[aF n];show e);show⟨Y _ _ j,L,rfl,x8,bG.of (un _ _ xS xN),aL (T.filter λz=>iL G i z.1),sj (bf (λW z r=>dO.of (un _ _ (λe=>by rw[e,Y _ _ j]at r;cases r.2) r.2)) xV),λa O=> ?_⟩;generalize upd t f (.dK (aL T))=M at xA O|-;have Y:((T.filter λz=>iL G i z.1).map (·.1)).Perm (E.filter (iL G i)):=(by have:=U.filter (iL G i);rw[abp]at this;show this);have xN:b4 (E.filter (iL G i)):=D.filter _;rw[nG _ [] (by simpa using tP Y xN),abo];have L:aD M (upd M a (.dK (aL (T.filter λz=>iL G i z.1)))):=aD.new O;have t:upd M a (.dK (aL (T.filter λz=>iL G i z.1))) a=some (.dK (aL (T.filter λz=>iL G i z.1))):=av;generalize upd M a (.dK (aL (T.filter λz=>iL G i z.1)))=W at L t|-;have f:=xA.trans L;have L:=f _ _ l;have j:bS [p] W (upd W p (HO.lst (b.map V.ref++[V.ref a]))):=bS.upd;have xS:a≠p:=bF t L (by simp)
     have W:b.length<=i:=by
      have:=aT xh;rw[Wl,Xo]at this
      lia
     have xW:i<xM.length:=(Wo.mp Q).1
     have M:a∉b:=λz=>(xg a z).2 (by
      cases e:xB a with
      |none=>rfl
      |some A=>rw[xA _ _ (c _ _ e)]at O;cases O)
     have W:b.map V.ref++[V.ref a]=(b++[a]).map V.ref:=(by rw[WZ];rfl);show⟨_,L,by rw[Wl,Wx];lia,λu A e=>j _ _ (b6 (aA e xQ)) (f _ _ (J _ _ e)),b++[a],W,nY xH M,λC R=> ?_,?_⟩
     . rcases W0.mp R with y|y
       . show⟨(xg C y).1,λz=> ?_⟩;cases e:xB C with
         |none=>show(xg C y).2 e
         |some A=>
          by_cases W:C=p
          . rw[W,av]at z;cases z
          . rw[j _ _ (b6 W) (f _ _ (c _ _ e))]at z;cases z
       . rw[Xd.mp y];show⟨?_,by rw[j _ _ (b6 xS) t];simp⟩;cases e:H a with
         |none=>rfl
         |some A=>rw[xA _ _ (J _ _ e)]at O;cases O
     . have W:(iR G v)[i]? =some (E.filter (iL G i)):=(by unfold iR;rw[Ws,WX,xR];simp);rw[W7,W,WZ];show eH (Rows.but (Rows.same xh (c.trans f)) L j) (.cons ?_ .nil);show dm.but ⟨a,_,rfl,t,λz m=> ?_,Y,xN⟩ L j;show f _ _ (J _ _ (xj z (W_.mp m).1))
 . rintro q xB ⟨xq,xr,g,h,xu,b,rfl,X,xJ,xH,xg,xh⟩;have L:(iR G v).length=v.length:=(by unfold iR;simp);rw[x6,<- L,Y0]at xh;left;show⟨_,rfl,xK,rfl,⟨_,bG.of (X _ _ xP)⟩,dN (xs:=xs) (λo q d =>NH λ(g h:az V)=>QO (q=[some (.ref xG),some (.ref xK),some (.ref xF),some (.ref p),xq,xr,g,h,xu]) (aD H d) (d p=some (.lst (b.map V.ref))) (Paired (dm d) (b.map V.ref) ((S.take o).foldl (f9 G) (iR G v)))) ⟨g,h,rfl,X,xJ,xh⟩ ?_ ?_ ?_⟩
   . rintro o q d L ⟨g,h,rfl,c,_⟩;show bG.of (c _ _ xP)
   . rintro o x q s Q ⟨g,h,rfl,c,l,i⟩;right;obtain⟨a,t,xE,xU,W,rfl,L,Y,N⟩:=bB xO Q;walk_at "u";have j:=Wq t;have f:=aD.ob c L;have L:S.take (o+1)=S.take o++[a]:=(by rw[W7,t];rfl);rw[L,ZF];have W:(V.str (jw a.aw)=V.str (Str.ofString "clear"))↔a.aw= .clear:=(by rw[V.str.injEq,L1]);have L:a.hold∉G->nK ((S.take o).foldl (f9 G) (iR G v)) a:=λZ=>nK.fold _ _ (nK.keep (xY a j) Z);generalize j:(S.take o).foldl (f9 G) (iR G v)=t at i L|-;have o:clears G a=false->aD H s/\s p=some (.lst (b.map V.ref))/\Paired (dm s) (b.map V.ref) (f9 G t a):=(by intro b;show⟨c,l,?_⟩;unfold f9;rw[Wn (by rw[b];simp)];show i);left;show⟨_,f,_,rfl,rfl,?_⟩;by_cases b:a.aw= .clear
     . rw[Wt (W.mpr b)];show⟨_,f,_,rfl,_,dJ.t (c _ _ xx) (k:=kk a.goal) (c _ _ N),?_⟩;by_cases m:a.goal∈G
       . rw[Wt (by rw[iE];show WK m)];show⟨_,f,_,rfl,_,dJ.t (c _ _ xx) (k:=kk a.hold) (c _ _ Y),?_⟩;by_cases j:a.hold∈G
         . rw[Wn (λz=>by have:=iE (G:=G) a.hold;rw[z,WK j]at this;cases this)];show o (by unfold clears;simp[j])
         . have Z:d7 (G.map nJ) (kk a.hold)=none:=(by have:=iE (G:=G) a.hold;rw[WC j]at this;simpa using this);rw[Wt Z];right;obtain⟨E,r,O,v,x,y,M,Z⟩:=L j;obtain⟨C,R,L,T,rfl,Y,xj,U,D⟩:=b_ i O;have N:bK E (a.n:Int)=some r:=(by unfold bK;rw[Wn (by lia),WQ,<- x];show gu D v);obtain⟨H,s,C⟩:=(bZ xj U D (a.n:Int)).2 r N;walk_at "u";have N:=GZ R;show⟨_,f,_,rfl,_,_,rfl,bG.of l,_,bJ R,_,f,_,rfl,L,rfl,_,s▸dJ.k (k:=Sum.inl (a.n:Int)) Y,_,f,_,rfl,H,a.c,0,r.vals,rfl,C,y,M,λQ xC T E=> ?_⟩;right;obtain⟨M,s,Y,y⟩:=Ex (r:={id:=a.n,vals:=r.vals.set a.c 0}) xH (Rows.same i T) N E;walk_at "u";have xT:M.length<=8:=(by rw[Y,bT O];show Z);show⟨_,aD.ob T f,_,rfl,L,rfl,_,m8.k (k:=Sum.inl (a.n:Int)) s (by unfold aL;rw[Wl,Wx];lia),λu A e=> ?_,?_,?_⟩
           . rw[aF (aA e (xg L (Wq N)).1)];show T _ _ (c _ _ e)
           . rw[aF (bF (T _ _ l) s (by simp))];show T _ _ l
           . have L:f9 G t a=putRow t a.t {id:=a.n,vals:=r.vals.set a.c 0}:=(by unfold f9;rw[Wt (by unfold clears;simp[b,m,j]),Qt O v x D]);rw[L];show y
       . rw[Wn (by rw[iE,WC m];simp)];show o (by unfold clears;simp[m])
     . rw[Wn (λz=>b (W.mp z))];show o (by unfold clears;simp[b])
   . rintro q d ⟨g,h,rfl,c,l,i⟩;left;rw[xX,Y0]at i;show k _ d c ⟨p,_,rfl,l,i⟩
theorem jJ{b:Type} [DecidableEq b]:∀{l m:ah b},l.Nodup->(∀x∈l,x∈m)->l.length<=m.length
 |[],_,_,_=>Xb _
 |a::l,m,b,c=>by
  obtain⟨f,g⟩:=XF.mp b;have b:=c a WD;have:=jJ (l:=l) (m:=m.erase a) g λx d=>(ZK (λe:x=a=>f (by rw[<- e];show d))).mpr (c x (Wz _ d));rw[aa7 b]at this;have:=List.length_pos_of_mem b;rw[WG]
  lia
theorem AQ{c:Type} [DecidableEq c]:∀{l m:ah c},l.Nodup->(∀x∈l,x∈m)->m.length<=l.length->∀x∈m,x∈l
 |[],m,_,_,c,x,b=>by have:=Yr.mp (Nat.le_zero.mp c);rw[this]at b;cases b
 |a::l,m,e,d,c,x,b=>by
  obtain⟨f,g⟩:=XF.mp e;have e:=d a WD
  have h:(m.erase a).length<=l.length:=by
   rw[aa7 e];rw[WG]at c
   lia
  by_cases c:x=a;rw[c];show WD;show Wz _ (AQ g (λy l=>(ZK (λe:y=a=>f (by rw[<- e];show l))).mpr (d y (Wz _ l))) h x ((ZK c).mpr b))
def mL(z:Nat×aB):Nat×Nat:=(z.1,z.2.id)
def o4(x:Nat×Nat):Pl:=((x.1:Int),(x.2:Int))
theorem AR(h:o4 x=o4 y):x=y:=by unfold o4 at h;have x:=(XU h).1;have x:=(XU h).2;show Z8 (by lia) (by lia)
structure jo(s:Schema)(db:Db):Prop where
 fit:Qq s db
 ri:∀(t:Nat) rows,db[t]? =some rows->b4 rows
 pos:∀(t:Nat) rows,db[t]? =some rows->∀r∈rows,1<=r.id
theorem fR:z∈allRows b↔∃a,b[z.1]? =some a/\z.2∈a:=by unfold allRows;rw[ZP];constructor;rintro⟨x,c,d⟩;obtain⟨r,b,rfl⟩:=Wy.mp d;show⟨x.1,by simpa using Xx.mp c,b⟩;rintro⟨a,b,c⟩;show⟨(a,z.1),Xx.mpr b,Wy.mpr ⟨z.2,c,rfl⟩⟩
theorem sr(w:jo s c):((allRows c).map mL).Nodup:=by
 have f:∀(d:Db)(n:Nat),(∀(t:Nat) b,d[t]? =some b->b4 b)->((d.zipIdx n).flatMap λx=>x.1.map λr=>(x.2,r.id)).Nodup/\∀y∈((d.zipIdx n).flatMap λx=>x.1.map λr=>(x.2,r.id)),n<=y.1:=by
  intro d
  induction d with
  |nil=>intro n _;show⟨YQ,λy a=>by cases a⟩
  |cons b d i=>
   intro n h;obtain⟨g,d⟩:=i (n+1) λt j e=>h (t+1) j (by simpa using e);rw[abf,ZG];show⟨Yx.mpr ⟨?_,g,λx n y a e=> ?_⟩,λy a=> ?_⟩;have:=h 0 b rfl;unfold List.Nodup;rw[W9]
   show this.imp λ{b g} h e=>by
    have:=(XU e).2
    lia
   obtain⟨r,b,rfl⟩:=Wy.mp n;have:=d y a;rw[<- e]at this;simp at this
   lia
   rcases W0.mp a with a|a
   obtain⟨r,b,rfl⟩:=Wy.mp a;show Wu _;have:=d y a
   lia
 have:=(f c 0 w.ri).1;unfold allRows;rw[List.map_flatMap];have e:(λx:ah aB×Nat=>List.map mL (x.1.map λr=>(x.2,r)))=λx=>x.1.map λr=>(x.2,r.id):=by funext x;rw[WN];rfl
 rw[e];show this
theorem lX{t n:Nat}{k:Lk}:k∈fk f t n d↔k.t=t/\k.n=n/\(∃a b,f[k.c]? =some a/\a.kind= .ref k.u b k.aw)/\d.getD k.c 0=k.v/\k.v≠0:=by unfold fk;rw[ZX];constructor;rintro⟨z,c,e⟩;have c:=Xx.mp c;unfold nI at e;split at e;rename_i u b o l;split at e;cases e;rename_i m;cases e;show⟨rfl,rfl,⟨z.1,b,c,l⟩,rfl,m⟩;cases e;rintro⟨rfl,rfl,⟨a,b,g,h⟩,i,j⟩;show⟨(a,k.c),Xx.mpr g,?_⟩;unfold nI;rw[h];change(if d.getD k.c 0=0 then none else some _)=_;rw[i,Wn j]
theorem o5(h:a.length=s.length):cR s a=(allRows a).flatMap λz=>fk (columnsOf s z.1) z.1 z.2.id z.2.vals:=by
 unfold cR allRows;rw[List.flatMap_assoc,<- h];have s:a.zipIdx=(List.range a.length).map λt=>(tableAt a t,t):=by show Yd λi=> ?_;rw[WX,Ws];by_cases z:i<a.length;rw[Wr z,List.getElem?_range z];simp only[Yi,XS];rw[bT (Wr z)];rw[Xh (by lia),Xh (by rw[aai];lia)];rfl
 rw[s,List.flatMap_map];congr 1;funext t;unfold lu;rw[List.flatMap_map]
theorem iF(h:c.length=s.length){k:Lk}:k∈cR s c↔∃a r,c[k.t]? =some a/\r∈a/\r.id=k.n/\(∃b d,(columnsOf s k.t)[k.c]? =some b/\b.kind= .ref k.u d k.aw)/\r.vals.getD k.c 0=k.v/\k.v≠0:=by rw[o5 h,ZP];constructor;rintro⟨z,c,s⟩;obtain⟨a,b,d⟩:=fR.mp c;obtain⟨e,f,c,g,h⟩:=lX.mp s;rw[<- e]at b c;show⟨a,z.2,b,d,f.symm,c,g,h⟩;rintro⟨a,r,b,d,e,f,c,g⟩;show⟨(k.t,r),fR.mpr ⟨a,b,d⟩,lX.mpr ⟨rfl,e.symm,f,c,g⟩⟩
theorem L4(g:AJ s)(w:jo s a):∀k∈cR s a,nK a k:=by
 intro k f;obtain⟨b,r,a,c,d,⟨h,i,e,_⟩,_⟩:=(iF w.fit.len).mp f;have hw:=w.fit.rD k.t b a r c;have f:=(Wo.mp e).1
 have e:(columnsOf s k.t).length<=4:=by
  unfold columnsOf;cases e:s[k.t]? with
  |none=>show Xb _
  |some f=>show g.cols f (Wq e)
 show⟨b,r,a,c,d,by lia,by lia,w.fit.few k.t b a⟩
theorem vH{t:Nat}:refersTo s t r g l=true↔∃c a u b,(columnsOf s t)[c]? =some a/\a.kind= .ref u b g/\r.vals.getD c 0≠0/\(u,(r.vals.getD c 0).toNat)∈l:=by unfold refersTo;rw[X7];constructor;rintro⟨z,f,h⟩;have f:=Xx.mp f;split at h;rename_i u b m k;simp only[WV,XD,abR,ne_eq,Y7]at h;obtain⟨⟨rfl,d⟩,e⟩:=h;show⟨z.2,z.1,u,b,f,k,d,e⟩;cases h;rintro⟨c,a,u,b,i,d,e,j⟩;show⟨(a,c),Xx.mpr i,?_⟩;simp only[d];simp only[WV,XD,abR,ne_eq,Y7];show⟨⟨trivial,e⟩,j⟩
def ly(s:Schema)(a:Db)(l:ah (Nat×Nat)):ah (Nat×Nat):=((allRows a).filter λz=> !l.contains (z.1,z.2.id)&&refersTo s z.1 z.2 .cascade l).map λz=>(z.1,z.2.id)
theorem oj s a n l:goneFrom s a (n+1) l=goneFrom s a n (l++ly s a l):=rfl
theorem lz:x∈ly s a l↔∃z∈allRows a,mL z=x/\x∉l/\refersTo s z.1 z.2 .cascade l=true:=by unfold ly;rw[Wy];constructor;rintro⟨z,l,rfl⟩;obtain⟨b,a⟩:=W_.mp l;simp only[WV,Zc,ZL,X8]at a;show⟨z,b,rfl,a.1,a.2⟩;rintro⟨z,b,rfl,a,l⟩;show⟨z,W_.mpr ⟨b,?_⟩,rfl⟩;simp only[WV,Zc,ZL,X8];show⟨a,l⟩
theorem Ez(w:jo s a) l:(ly s a l).Nodup:=by unfold ly;have h:=sr w;show Z3 (List.Sublist.map mL aaC) h
theorem EA(h:ly s a l=[]):∀n,goneFrom s a n l=l
 |0=>rfl
 |n+1=>by rw[oj,h,XJ,EA h n]
structure GL(s:Schema)(db:Db)(l:ah (Nat×Nat)):Prop where
 nd:l.Nodup
 sub:∀x∈l,x∈(allRows db).map mL
theorem GL.grow(w:jo s h)(g:GL s h l):GL s h (l++ly s h l):=by
 show⟨Yx.mpr ⟨g.nd,Ez w l,λx a y s e=> ?_⟩,λx a=> ?_⟩;obtain⟨z,_,_,h,_⟩:=lz.mp s;show h (e▸a);rcases W0.mp a with h|h
 show g.sub x h;obtain⟨z,a,e,_⟩:=lz.mp h;show Wy.mpr ⟨z,a,e⟩
theorem nL(w:jo s a):∀n l,GL s a l->(allRows a).length<=n+l.length->ly s a (goneFrom s a n l)=[]/\GL s a (goneFrom s a n l)
 |0,l,g,h=>by
  show⟨?_,g⟩;change ly s a l=[];have all:=AQ g.nd g.sub (by rw[Wl];lia);cases e:ly s a l with
  |nil=>rfl
  |cons x r=>have d:x∈ly s a l:=(by rw[e];show WD);obtain⟨z,b,e,c,_⟩:=lz.mp d;show absurd (all x (Wy.mpr ⟨z,b,e⟩)) c
 |n+1,l,g,h=>by
  rw[oj];by_cases b:ly s a l=[];rw[b,XJ,EA b];show⟨b,g⟩;show nL w n _ (g.grow w) ?_;have:=abD.mpr b;rw[WY]
  lia
theorem vI:∀n l x,x∈l->x∈goneFrom s h n l
 |0,l,x,h=>h
 |n+1,l,x,h=>by rw[oj];show vI n _ x (Xw _ h)
theorem G3(w:jo s z)(g:GL s z l):∀x∈l,1<=x.2:=by intro x c;obtain⟨z,a,b⟩:=Wy.mp (g.sub x c);obtain⟨c,g,x⟩:=fR.mp a;rw[<- b];show w.pos z.1 c g z.2 x
theorem rH{l:ah (Nat×Nat)}(e:∀x∈l,1<=x.2){u:Nat}{v:Int}(h:v≠0):(u,v.toNat)∈l↔∃x∈l,o4 x=((u:Int),v):=by constructor;intro h;have:=e _ h;show⟨_,h,?_⟩;unfold o4;simp only at this|-;show Z8 rfl (by change((v.toNat:Nat):Int)=v;lia);rintro⟨x,h,e⟩;have l:=(XU e).1;have l:(x.2:Int)=v:=(XU e).2;have:x=(u,v.toNat):=Z8 (by lia) (by change x.2=v.toNat;lia);rw[<- this];show h
theorem vJ(w:jo s a) c:∀n l,GL s a l->(∀x∈l,Gone (cR s a) c (o4 x))->∀x∈goneFrom s a n l,Gone (cR s a) c (o4 x)
 |0,l,_,h,x,z=>h x z
 |n+1,l,g,h,x,z=>by
  rw[oj]at z;show vJ w c n _ (g.grow w) (λy b=> ?_) x z;rcases W0.mp b with b|b
  show h y b;obtain⟨z,d,rfl,_,e⟩:=lz.mp b;obtain⟨c,x,u,o,f,i,b,j⟩:=vH.mp e;obtain⟨p,e,k⟩:=fR.mp d;obtain⟨q,m,d⟩:=(rH (G3 w g) b).mp j;have g:(⟨z.1,z.2.id,c,.cascade,u,z.2.vals.getD c 0⟩:Lk)∈cR s a:=(iF w.fit.len).mpr ⟨p,z.2,e,k,rfl,⟨x,o,f,i⟩,rfl,b⟩;show Gone.step _ g rfl ?_;change Gone _ _ ((u:Int),z.2.vals.getD c 0);rw[<- d];show h q m
theorem L5(w:jo s a){t i:Nat}(e:rowAt a t i=some r) p:Gone (cR s a) ((t:Int),(i:Int)) p↔∃x∈goneWith s a t i,o4 x=p:=by
 have p:r.id=i:=by simpa using XQ e
 have k:r∈tableAt a t:=Xf e
 have f:(t,i)∈(allRows a).map mL:=by
  show Wy.mpr ⟨(t,r),fR.mpr ?_,by unfold mL;rw[p]⟩;unfold tableAt at k;cases e:a[t]? with
  |none=>rw[e]at k;cases k
  |some r=>rw[e]at k;show⟨r,rfl,k⟩
 have e:GL s a [(t,i)]:=⟨by simp,λx b=>by rw[Xd.mp b];show f⟩;obtain⟨u,h⟩:=nL w (allRows a).length [(t,i)] e (by simp);constructor;intro k
 induction k with
 |base=>show⟨(t,i),vI _ _ _ WD,rfl⟩
 |step k f q _ p=>
  obtain⟨x,b,g⟩:=p;obtain⟨r,y,j,l,m,⟨p,v,n,o⟩,c,d⟩:=(iF w.fit.len).mp f;show⟨(k.t,k.n),?_,rfl⟩;by_cases f:(k.t,k.n)∈goneWith s a t i;show f;have:(k.t,k.n)∈ly s a (goneWith s a t i):=by show lz.mpr ⟨(k.t,y),fR.mpr ⟨r,j,l⟩,by unfold mL;rw[m],f,vH.mpr ⟨k.c,p,k.u,v,n,by rw[o,q],by rw[c];show d,?_⟩⟩;rw[c];show(rH (G3 w h) d).mpr ⟨x,b,g⟩
  rw[show goneWith s a t i=goneFrom s a (allRows a).length [(t,i)]from rfl,u]at this;cases this
 rintro⟨x,b,rfl⟩;show vJ w _ _ _ e (λy k=> ?_) x b;rw[Xd.mp k];show .base
structure kN(s:Schema)(db:Db)(G:ah Pl)(L:ah (Nat×Nat)):Prop where
 w:jo s db
 gl:GL s db L
 nd:G.Nodup
 iff:∀p,p∈G↔∃x∈L,o4 x=p
theorem Qu(w:jo s a){t i:Nat}(c:rowAt a t i=some r)(f:G.Nodup)(d:∀x,x∈G↔Gone (cR s a) ((t:Int),(i:Int)) x):kN s a G (goneWith s a t i):=by
 have e:r.id=i:=by simpa using XQ c
 have b:=Xf c
 have p:(t,i)∈(allRows a).map mL:=by
  show Wy.mpr ⟨(t,r),fR.mpr ?_,by unfold mL;rw[e]⟩;unfold tableAt at b;cases e:a[t]? with
  |none=>rw[e]at b;cases b
  |some r=>rw[e]at b;show⟨r,rfl,b⟩
 have b:GL s a [(t,i)]:=⟨by simp,λx e=>by rw[Xd.mp e];show p⟩;show⟨w,(nL w (allRows a).length [(t,i)] b (by simp)).2,f,λp=>(d p).trans (L5 w c p)⟩
section
variable{s:Schema}{b:Db}{G:ah Pl}{L:ah (Nat×Nat)}
theorem kN.nat(g:kN s b G L)(a c:Nat):((a:Int),(c:Int))∈G↔(a,c)∈L:=by rw[g.iff];constructor;rintro⟨x,g,e⟩;have:=AR (y:=(a,c)) e;rw[<- this];show g;intro h;show⟨_,h,rfl⟩
theorem kN.goal(g:kN s b G L)(u:Nat){v:Int}(a:v≠0):((u:Int),v)∈G↔(u,v.toNat)∈L:=by rw[g.iff,rH (G3 g.w g.gl) a]
def Cq(k:Lk):Fault:={code:=5,table:=k.t,id:=k.n,column:=k.c}
theorem L6(g:kN s b G L)(z:Nat×aB):(((fk (columnsOf s z.1) z.1 z.2.id z.2.vals).find? (cZ G)).map Cq)=if L.contains (z.1,z.2.id)then none else((columnsOf s z.1).zipIdx.find? λc=>match c.1.kind with
 | .ref u _ a=>a== .keep&&(z.2.vals.getD c.2 0) !=0&&L.contains (u,(z.2.vals.getD c.2 0).toNat)
 |_=>false).map λc=>{code:=5,table:=z.1,id:=z.2.id,column:=c.2}:=by
 by_cases d:(z.1,z.2.id)∈L;rw[Wt (by simpa using d)]
 have:(fk (columnsOf s z.1) z.1 z.2.id z.2.vals).find? (cZ G)=none:=by
  rw[Yq];intro k a;obtain⟨e,f,_⟩:=lX.mp a;have:k.hold∈G:=by unfold Lk.hold;rw[e,f];show(g.nat z.1 z.2.id).mpr d
  unfold cZ;simp[this]
 rw[this];rfl;rw[Wn (by simpa using d)];have j:((z.1:Int),(z.2.id:Int))∉G:=λh=>d ((g.nat z.1 z.2.id).mp h);unfold fk;generalize(columnsOf s z.1).zipIdx=d
 induction d with
 |nil=>rfl
 |cons c d i=>
  rw[YX,XO];cases a:c.1.kind with
  |number lo d=>have e:nI z.1 z.2.id z.2.vals c=none:=(by unfold nI;rw[a]);rw[e];simp only[a];show i
  |ref u d f=>
   by_cases d:z.2.vals.getD c.2 0=0;have e:nI z.1 z.2.id z.2.vals c=none:=(by unfold nI;rw[a];simp only[d,Za]);rw[e];simp only[a,d];simp only[bne_self_eq_false,aaN,aaJ];show i;have e:nI z.1 z.2.id z.2.vals c=some ⟨z.1,z.2.id,c.2,f,u,z.2.vals.getD c.2 0⟩:=(by unfold nI;rw[a];simp only[d,YN]);rw[e];simp only[a];rw[XO];have a:cZ G ⟨z.1,z.2.id,c.2,f,u,z.2.vals.getD c.2 0⟩=(f== .keep&&z.2.vals.getD c.2 0 !=0&&L.contains (u,(z.2.vals.getD c.2 0).toNat)):=(by unfold cZ Lk.goal Lk.hold;rw[Xg];simp only[WV,XA,XD,abR,ne_eq,Y7,g.goal u d];show⟨λh=>⟨⟨h.1.1,d⟩,h.1.2⟩,λh=>⟨⟨h.1.1,h.2⟩,j⟩⟩);rw[a];cases a:(f== .keep&&z.2.vals.getD c.2 0 !=0&&L.contains (u,(z.2.vals.getD c.2 0).toNat))with
   |true=>rfl
   |false=>show i
theorem qx{b c d:Type}(f:b->az c)(h:c->d):∀l:ah b,l.findSome? (λz=>(f z).map h)=(l.findSome? f).map h
 |[]=>rfl
 |a::l=>by
  rw[X4,X4];cases f a with
  |none=>show qx f h l
  |some b=>rfl
theorem NW(g:kN s b G L):heldBy s b L=((cR s b).find? (cZ G)).map Cq:=by rw[o5 g.w.fit.len,List.find?_flatMap,<- qx];unfold heldBy;congr 1;funext z;show(L6 g z).symm
def e_(G:ah Pl)(a:ah Lk)(t:Nat)(r:aB):VauowBase.Row:=a.foldl (λr k=>if clears G k=true then ck k t r else r) r
theorem AU(G:ah Pl):∀(a:ah Lk)(d:Db),a.foldl (f9 G) d=d.zipIdx.map λx=>x.1.map (e_ G a x.2)
 |[],d=>by
  change d=d.zipIdx.map λx=>x.1.map λr=>r;show Yd λi=> ?_;rw[Ws,WX];cases d[i]? with
  |none=>rfl
  |some x=>simp
 |k::a,d=>by
  rw[YW,AU G a];show Yd λi=> ?_;rw[Ws,WX,Ws,WX];unfold f9;by_cases b:clears G k=true;rw[Wt b,Ws,WX];cases d[i]? with
  |none=>rfl
  |some x=>simp only[Yi,XS,WN];congr 1;show Xv λr _=> ?_;change e_ G a i (ck k i r)=e_ G (k::a) i r;unfold e_;rw[YW,Wt b]
  rw[Wn b];cases d[i]? with
  |none=>rfl
  |some x=>simp only[Yi,XS];congr 1;show Xv λr _=> ?_;unfold e_;rw[YW,Wn b]
theorem vK G t:∀a r,(e_ G a t r).id=r.id
 |[],r=>rfl
 |k::a,r=>by change(e_ G a t (if clears G k=true then ck k t r else r)).id=r.id;rw[vK G t a];split;show OU k t r;rfl
theorem kH G t c:∀a r v,r.vals[c]? =some v->(e_ G a t r).vals[c]? =some (if(a.any λk=>clears G k&&decide (k.t=t)&&decide (k.n=r.id)&&decide (k.c=c))=true then 0 else v)
 |[],r,v,h=>h
 |k::a,r,v,h=>by
  change(e_ G a t (if clears G k=true then ck k t r else r)).vals[c]? =_;by_cases b:clears G k=true/\k.t=t/\k.n=r.id;obtain⟨b,d,f⟩:=b;have e:ck k t r={r with vals:=r.vals.set k.c 0}:=by unfold ck;rw[Wt ⟨d,f⟩]
  rw[Wt b,e];by_cases z:k.c=c;have g:c<r.vals.length:=(Wo.mp h).1;rw[kH G t c a _ 0 (by rw[z];show Xe g),Yn];rw[b,WK d,WK f,WK z];simp;rw[kH G t c a _ v (by change(r.vals.set k.c 0)[c]? =some v;rw[Xn z];show h),Yn,WC z];simp;have e:(if clears G k=true then ck k t r else r)=r:=by by_cases d:clears G k=true;rw[Wt d];unfold ck;rw[Wn (λz=>b ⟨d,z⟩)];rw[Wn d]
  rw[e,kH G t c a r v h,Yn];have d:(clears G k&&decide (k.t=t)&&decide (k.n=r.id)&&decide (k.c=c))=false:=by rw[Xa];intro z;simp only[WV,XA]at z;show b ⟨z.1.1.1,z.1.1.2,z.1.2⟩
  rw[d,aa2]
theorem su G t:∀a r,(e_ G a t r).vals.length=r.vals.length
 |[],r=>rfl
 |k::a,r=>by change(e_ G a t (if clears G k=true then ck k t r else r)).vals.length=_;rw[su G t a];split;show G0 k t r;rfl
theorem JL(g:kN s b G L){t:Nat}(o:b[t]? =some D)(y:r∈D)(K:(t,r.id)∉L):e_ G (cR s b) t r=clearedRow s L t r:=by
 have n:(e_ G (cR s b) t r).id=(clearedRow s L t r).id:=vK _ _ _ _
 have q:(e_ G (cR s b) t r).vals=(clearedRow s L t r).vals:=by
  show Yd λc=> ?_;unfold clearedRow;simp only;rw[Ws,WX];cases p:r.vals[c]? with
  |none=>have:=Yj.mp p;rw[Xh (by rw[su];show this)];rfl
  |some v=>
   rw[kH G t c _ r v p];simp only[Yi,XS];have A:r.vals.getD c 0=v:=(by rw[Yh,p];rfl);have M:((t:Int),(r.id:Int))∉G:=λh=>K ((g.nat t r.id).mp h)
   have B:((cR s b).any λk=>clears G k&&decide (k.t=t)&&decide (k.n=r.id)&&decide (k.c=c))=true↔∃u,((columnsOf s t)[c]?).bind clearsTo=some u/\v≠0/\(u,v.toNat)∈L:=by
    rw[X7];constructor;rintro⟨k,f,h⟩;simp only[WV,XA,clears]at h;obtain⟨⟨⟨⟨⟨a,d⟩,_⟩,rfl⟩,O⟩,rfl⟩:=h;obtain⟨R,N,x,F,P,⟨e,C,H,I⟩,j,w⟩:=(iF g.w.fit.len).mp f;rw[o]at x;cases x;have:N=r:=fQ (g.w.ri _ _ o) F y (by lia);subst this;rw[A]at j;show⟨k.u,?_,by rw[j];show w,?_⟩;rw[H];change clearsTo e=some k.u;unfold clearsTo;rw[I,a];rw[j];show(g.goal k.u w).mp d;rintro⟨u,a,d,l⟩;cases m:(columnsOf s t)[c]? with
    |none=>rw[m]at a;cases a
    |some e=>
     rw[m]at a;have a:clearsTo e=some u:=a;unfold clearsTo at a;cases f:e.kind with
     |number lo Q=>rw[f]at a;cases a
     |ref S C E=>
      rw[f]at a;cases E with
      |keep=>cases a
      |cascade=>cases a
      |clear=>cases a;show⟨⟨t,r.id,c,.clear,u,v⟩,(iF g.w.fit.len).mpr ⟨D,r,o,y,rfl,⟨e,C,m,f⟩,A,d⟩,?_⟩;have J:clears G ⟨t,r.id,c,.clear,u,v⟩=true:=(by unfold clears;rw[WK (show(Away.clear=Away.clear)from rfl),WK (show Lk.goal ⟨t,r.id,c,.clear,u,v⟩∈G from(g.goal u d).mpr l),WK (show Lk.hold ⟨t,r.id,c,.clear,u,v⟩∉G from M)];rfl);rw[J];simp
   congr 1;by_cases i:∃u,((columnsOf s t)[c]?).bind clearsTo=some u/\v≠0/\(u,v.toNat)∈L;rw[Wt (B.mpr i)];obtain⟨u,a,d,l⟩:=i;simp only[a];rw[Wt (by simp[d,l])];rw[Wn (λz=>i (B.mp z))];cases a:((columnsOf s t)[c]?).bind clearsTo with
   |none=>rfl
   |some u=>simp only;rw[Wn];intro z;simp only[WV,abR,ne_eq,Y7]at z;show i ⟨u,a,z.1,z.2⟩
 cases a:e_ G (cR s b) t r;cases d:clearedRow s L t r;rw[a,d]at n q;simp only at n q;rw[n,q]
theorem G4(g:kN s b G L):removed s b L=(cR s b).foldl (f9 G) (iR G b):=by
 rw[AU];unfold removed iR;show Yd λi=> ?_;rw[Ws,WX,Ws,WX,Ws,WX];cases e:b[i]? with
 |none=>rfl
 |some a=>
  simp only[Yi,XS];congr 1;have c:(a.filter λr=> !L.contains (i,r.id))=a.filter (iL G i):=by show abV λr _=> ?_;unfold iL Ey;rw[Xg];simp only[Zc,ZL,X8,XA,g.nat]
  rw[c];show Xv λr d=> ?_;obtain⟨c,a⟩:=W_.mp d;have a:((i:Int),(r.id:Int))∉G:=XT a;show(JL g e c (λz=>a ((g.nat i r.id).mpr z))).symm
theorem EB d:(allRows d).length=(d.map List.length).sum:=by
 have a:∀(d:Db)(n:Nat),((d.zipIdx n).flatMap λx=>x.1.map λr=>(x.2,r)).length=(d.map List.length).sum:=by
  intro d
  induction d with
  |nil=>intro n;rfl
  |cons r d x=>intro n;rw[abf,ZG,WY,x,Wl,WM,aa5]
 show a d 0
theorem sZ d p:(((allRows d).map mL).filter p).length=(d.zipIdx.map λx=>(x.1.filter λr=>p (x.2,r.id)).length).sum:=by
 have a:∀(d:Db)(n:Nat),((((d.zipIdx n).flatMap λx=>x.1.map λr=>(x.2,r)).map mL).filter p).length=((d.zipIdx n).map λx=>(x.1.filter λr=>p (x.2,r.id)).length).sum:=by
  intro d
  induction d with
  |nil=>intro n;rfl
  |cons r d p=>intro n;rw[abf,ZG,WZ,XW,WY,p,WM,aa5];congr 1;rw[WN,abp,Wl];rfl
 show a d 0
theorem G5(g:kN s b G L):(allRows b).length-(allRows (removed s b L)).length=G.length:=by
 have a:(allRows (removed s b L)).length=(((allRows b).map mL).filter λx=> !L.contains x).length:=by rw[EB,sZ];unfold removed;rw[WN];congr 1;show Xv λx _=> ?_;change((x.1.filter λr=> !L.contains (x.2,r.id)).map (clearedRow s L x.2)).length=_;rw[Wl]
 have a:(((allRows b).map mL).filter λx=>L.contains x).length+(((allRows b).map mL).filter λx=> !L.contains x).length=(allRows b).length:=by rw[<- aaB,<- aaB];have:=List.length_eq_countP_add_countP (λx=>L.contains x) (l:=(allRows b).map mL);rw[Wl]at this;rw[this];congr 1;show List.countP_congr λx _=> ?_;simp
 have e:(((allRows b).map mL).filter λx=>L.contains x).Nodup:=Z3 aaC (sr g.w);have p:∀x,x∈(((allRows b).map mL).filter λx=>L.contains x)↔x∈L:=by intro x;rw[W_];constructor;rintro⟨_,h⟩;simpa using h;intro h;show⟨g.gl.sub x h,by simpa using h⟩
 have a:=
  abn (jJ g.gl.nd λx a=>(p x).mpr a) (jJ e λx a=>(p x).mp a)
 have x:(L.map o4).Nodup:=by have:=g.gl.nd;unfold List.Nodup at this|-;rw[W9];show this.imp λ{a p} h e=>h (AR e)
 have a:=
  abn (jJ g.nd λp h=>Wy.mpr ((g.iff p).mp h)) (jJ x λp h=>(g.iff p).mpr (Wy.mp h))
 rw[Wl]at a
 lia
end
noncomputable def cX (sv lv nv:V) (m:Int) (a b:ai):ah (Str×V):=[("schema",sv),("loaded",lv),("now",nv),("made",.int m),("past",.ref a),("undone",.ref b)]
theorem j0{m:Int}:(cX sv lv nv m a b).length<1000:=by change(6:Nat)<1000;lia
inductive mC(H:Hp)(v:V)(x:Session):Prop
 |mk (m tv) (_:v= .ref m) (_:H m=some (.tup [tv,.int ((x.next:Int)-100)])) (_:cV H tv x.now):mC H v x
structure Ir(cc:aC->ai)(H:Hp)(S:aI)(sv lv nv:V)(o6 CH:ah V):Prop where
 wm:eL cc H sv S.schema
 base:cV H lv S.session.base
 now:cV H nv S.session.now
 past:Paired (mC H) o6.reverse S.past
 L7:Paired (mC H) CH.reverse S.undone
inductive fu(cc:aC->ai)(H:Hp)(c a b:ai)(S:aI):Prop
 |mk (sv lv nv o6 CH) (_:Ob H c (cc "Session") (cX sv lv nv ((S.session.next:Int)-100) a b)) (_:H a=some (.lst o6)) (_:H b=some (.lst CH)) (_:a≠b) (_:∀d,bS [c,a,b] H d->Ir cc d S sv lv nv o6 CH):fu cc H c a b S
theorem cV.same(h:cV H v b)(s:aD H a):cV a v b:=by obtain⟨a,c,rfl,b,H⟩:=h;show⟨a,c,rfl,s _ _ b,Rows.same H s⟩
theorem eL.same(h:eL cc H v s)(a:aD H b):eL cc b v s:=by obtain⟨b,k,rfl,g,j⟩:=h;show⟨b,k,rfl,a _ _ g,bf (λ_ _⟨H,c,e,h,i⟩=>⟨H,c,e,a _ _ h,bf (λ_ _⟨d,f,o⟩=>⟨d,f,aD.ob a o⟩) i⟩) j⟩
theorem cV.ins{fs:ah (Str×V)}(h:cV H v f)(c:H g=some (.ins C dx fs))(b:bS [g] H d):cV d v f:=by obtain⟨a,k,rfl,H,i⟩:=h;show⟨a,k,rfl,b _ _ (b6 (bF H c (by simp))) H,bf (λ_ _⟨h,j,e,d,f,p⟩=>⟨h,j,e,b _ _ (b6 (bF d c (by simp))) d,λz g=>b _ _ (b6 (bF (f z g) c (by simp))) (f z g),p⟩) i⟩
theorem JM c:∃x r,oB c=(Str.ofString "low",x)::r:=by
 unfold oB;cases c.kind with
 |number lo c=>show⟨_,_,rfl⟩
 |ref t n c=>show⟨_,_,rfl⟩
theorem eL.ins(h:eL cc H v s)(c:H d=some (.ins C dx ((Str.ofString "schema",x)::r)))(b:bS [d] H z):eL cc z v s:=by
 obtain⟨a,s,rfl,z,k⟩:=h;show⟨a,s,rfl,b _ _ (b6 (bF z c (by simp))) z,bf (λ_ _⟨g,f,e,H,j⟩=>⟨g,f,e,b _ _ (b6 (bF H c (by simp))) H,bf (λ_ d⟨q,i,h,o⟩=>⟨q,i,h,b _ _ ?_ o⟩) j⟩) k⟩
 have:=bF o c λz=>by
  obtain⟨y,h,H⟩:=JM d;rw[H]at z;injection z with _ _ z
  injection z with z _
  have:=(XU z).1;rw[bN]at this;simp at this
 simpa using this
theorem fu.same(h:fu cc H c b d S)(s:aD H a):fu cc a c b d S:=by obtain⟨sv,lv,nv,o6,CH,H,c,d,e,f⟩:=h;show⟨sv,lv,nv,o6,CH,aD.ob s H,s _ _ c,s _ _ d,e,λa b=>f a ((aD.but s _).trans b)⟩
inductive Si(cc:aC->ai)(H:Hp)(b a c:ai)(S:aI):Prop
 |mk (sv lv nv o6 CH) (_:Ob H b (cc "Session") (cX sv lv nv ((S.session.next:Int)-100) a c)) (_:Ir cc H S sv lv nv o6 CH):Si cc H b a c S
theorem fu.read(h:fu cc H b a c S):Si cc H b a c S:=by obtain⟨f,c,d,e,g,a,i,j,k,b⟩:=h;show⟨f,c,d,e,g,a,b H (bS.refl _ _)⟩
theorem fu.make{a p q dx C:ai}{x:V}{r:ah (Str×V)}(d:bS [a] H b)(h:H p=none)(j:H q=none)(ob:Ob b a (cc "Session") (cX sv lv nv ((S.session.next:Int)-100) p q))(f:b p=some (.lst o6))(g:b q=some (.lst CH))(i:p≠q)
 (k:∀c,bS [a] H c->Ir cc c S sv lv nv o6 CH):fu cc b a p q S:=by
 show⟨sv,lv,nv,o6,CH,ob,f,g,i,λc b=>k c λp o n e=> ?_⟩;have c:p≠a:=by simpa using n
 have p:=aA e h;have a:=aA e j;show b _ _ (by simp[c,p,a]) (d _ _ n e)
inductive G6(cc:aC->ai)(g:ah V)(H:Hp)(Q:VK)(h:XK):Prop
 |mk (a:ai) (m i k:V) (j:Int) (l n:ai) (sv e:V) (s:Schema) (c:Db) (_:g=[.ref a,sv,e]) (_:Ob H a (cc "Session") (cX m i k j l n)) (_:eL cc H sv s) (_:cV H e c) (_:∀d f b,bS [a] H b->H d=none->H f=none->fu cc b a d f {schema:=s,session:=Vauowc.fresh c,past:=[],undone:=[]}->Q .non b):G6 cc g H Q h
theorem iG(d:En P w K B base CT cc I):Fv P w K B base CT (cc "Session") "hold" 1 ["self","schema","tables"] (G6 cc):=by
 show sV d d.iw ["self","schema","tables"] λf e A l k H a Q E j h sc T=> ?_;obtain⟨c,l,j,f,e,g,b,sv,a,k,d,rfl,⟨dx,i⟩,r,m,s⟩:=h
 show⟨_,(aE (bX T.aH T.bq (pw 0) (pw 1) rfl)
  (aE (bX T.aH T.bV (pw 0) (pw 2) rfl)
  (aE (bX T.aH T.aZ (pw 0) (pw 2) rfl)
  (aE (bX T.aH T.cJ (pw 0) aO rfl)
  (aE (bX T.aH T.cU (pw 0) (bI ao) rfl)
  (au (bX T.aH T.cP (pw 0) (bI ao) rfl))))))),?_⟩
 left;show⟨dx,_,i,j0,by unfold cX;walk_at "p",by unfold cX;walk_at "p",by unfold cX;walk_at "p",λp d=> ?_⟩;have T:(cA (Str.ofString "made") (V.int 0) (cA (Str.ofString "now") a (cA (Str.ofString "loaded") a (cA (Str.ofString "schema") sv (cX l j f e g b)))))=cX sv a a 0 g b:=by unfold cX;walk_at "p"
 rw[T]at d|-;have f:p≠c:=λe=>by rw[e,av]at d;cases d
 show⟨dx,cX sv a a 0 g b,by rw[aF f.symm,av],j0,λq T=> ?_⟩;have h:cA (Str.ofString "past") (V.ref p) (cX sv a a 0 g b)=cX sv a a 0 p b:=by unfold cX;walk_at "p"
 rw[h]at T|-;have h:q≠c:=λe=>by rw[e,av]at T;cases T
 have k:q≠p:=λe=>by rw[e,aF f,av]at T;cases T
 show⟨dx,cX sv a a 0 p b,by rw[aF h.symm,av],j0,?_⟩;have j:cA (Str.ofString "undone") (V.ref q) (cX sv a a 0 p b)=cX sv a a 0 p q:=by unfold cX;walk_at "p"
 rw[j];have j:H p=none:=by rw[aF f]at d;show d
 have d:H q=none:=by rw[aF h,aF k,aF h]at T;show T
 have l:bS [c] H (upd (upd (upd (upd (upd H c (HO.ins (cc "Session") dx (cX sv a a 0 g b))) p (HO.lst [])) c (HO.ins (cc "Session") dx (cX sv a a 0 p b))) q (HO.lst [])) c (HO.ins (cc "Session") dx (cX sv a a 0 p q))):=λo T n e=>by
  have T:o≠c:=by simpa using n
  rw[aF T,aF (aA e d),aF T,aF (aA e j),aF T];show e
 show s p q _ l j d (fu.make (C:=cc "Session") (x:=sv) (r:=[]) (dx:=dx) (o6:=[]) (CH:=[]) (sv:=sv) (lv:=a) (nv:=a) l j d ⟨dx,av⟩ ?_ ?_ k.symm λe T=>⟨eL.ins r i T,cV.ins m i T,cV.ins m i T,.nil,.nil⟩);rw[aF f,aF k.symm,aF f,av];rw[aF h,av]
inductive AV(cc:aC->ai)(c:ah V)(H:Hp)(Q:VK)(d:XK):Prop
 |mk (b:ai) (g e a:V) (m:Int) (f h:ai) (_:c=[.ref b]) (_:Ob H b (cc "Session") (cX g e a m f h)) (_:∀q,H q=none->Q (.ref q) (upd H q (.tup [a,.int m]))):AV cc c H Q d
theorem kI(a:En P w K B base CT cc I):Fv P w K B base CT (cc "Session") "present" 1 ["self"] (AV cc):=by show sV a a.fG ["self"] λf k A m s H d Q E b h c T=> ?_;obtain⟨f,sv,lv,nv,m,b,c,rfl,a,k⟩:=h;show⟨_,(au (aJ (iN (aj (aW T.aH T.aZ (pw 0)) (aj (aW T.aH T.cJ (pw 0)) ao))))),?_⟩;left;show⟨_,a,_,rfl,_,a,_,rfl,by rw[Wx];lia,k⟩
inductive L8(cc:aC->ai)(j:ah V)(H:Hp)(Q:VK)(k:XK):Prop
 |mk (a e b:ai) (g c l:V) (m:Int) (f i:ai) (h:V) (d:Int) (_:j=[.ref a,.ref e]) (_:H a=some (.ins (cc "Session") b (cX g c l m f i))) (_:H e=some (.tup [h,.int d])) (_:Q .non (upd H a (.ins (cc "Session") b (cX g c h d f i)))):L8 cc j H Q k
theorem s6(a:En P w K B base CT cc I):Fv P w K B base CT (cc "Session") "go_to" 1 ["self","moment"] (L8 cc):=by
 show sV a a.gG ["self","moment"] λf b A d s H g Q E c j e T=> ?_;obtain⟨s,A,i,g,d,l,m,f,h,b,e,rfl,c,a,k⟩:=j
 show⟨_,(aE (bX T.aH T.aZ (pw 0) (bH gh (pw 1) aO) rfl)
  (au (bX T.aH T.cJ (pw 0) (bH gh (pw 1) aO) rfl))),?_⟩
 left;have j:=bF a c (by simp);show⟨_,dO.of a,b,rfl,i,_,c,j0,_,dO.of (by rw[aF j];show a),_,rfl,by unfold cX;walk_at "p",?_⟩;have a:cA (Str.ofString "made") (V.int e) (cA (Str.ofString "now") b (cX g d l m f h))=cX g d b e f h:=by unfold cX;walk_at "p"
 rw[a];show k
theorem NX n:HT.eK n 0 (some (-10))=n-10:=by
 unfold HT.eK;simp only[show((-10:Int)<0)from by lia,Za]
 lia
theorem nM{fs fs' :ah (Str×V)}(c:H a=some (.ins C dx fs))(b:H p=none):bS [a] H (L2.upd (L2.upd H p (.lst [])) a (.ins C dx fs'))/\L2.upd (L2.upd H p (.lst [])) a (.ins C dx fs') a=some (.ins C dx fs')/\L2.upd (L2.upd H p (.lst [])) a (.ins C dx fs') p=some (.lst [])/\L2.upd H p (.lst []) a=some (.ins C dx fs)/\p≠a:=by have h:=(aA c b).symm;show⟨λa o n e=> ?_,av,by rw[aF h,av],by rw[aF h.symm];show c,h⟩;rw[aF (by simpa using n),aF (aA e b)];show e
theorem sA:∀n{a}{b},Paired R a b->Paired R (a.take n) (b.take n)
 |0,_,_,_=> .nil
 |_+1,_,_,.nil=> .nil
 |n+1,_,_,.cons r t=> .cons r (sA n t)
inductive vL(cc:aC->ai)(g:ah V)(H:Hp)(Q:VK)(h:XK):Prop
 |mk (a i j:ai) (e:V) (S:aI) (c:Db) (_:g=[.ref a,e]) (_:fu cc H a i j S) (_:cV H e c) (_:S.past.length<=10) (_:∀d f b,bS [a] H b->H d =none->H f =none->fu cc b a d f {schema:=S.schema,session:={base:=S.session.base,now:=c,next:=S.session.next},past:=(S.session::S.past).take 10,undone:=[]}->Q .non b):vL cc g H Q h
theorem eX(a:En P w K B base CT cc I):Fv P w K B base CT (cc "Session") "change" 2 ["self","tables"] (vL cc):=by
 show sV a a.f6 ["self","tables","moments"] λf y A z s H b Q E g e sc T=> ?_;obtain⟨f,p,l,j,S,y,rfl,⟨sv,lv,nv,o6,CH,⟨dx,h⟩,z,t,b,E⟩,J,i,k⟩:=e
 show⟨_,(aE (aP 2 sc.nd (ef mY (aW T.aH T.cU (pw 0)) (bI (aj (dY T.aH (kI a) g aM (pw 0)) ao))))
  (aE (bX T.aH T.cU (pw 0) (fL lI (pw 2) (ek (Oi Km (bA rfl T.kB))) p7) rfl)
  (aE (bX T.aH T.cP (pw 0) (bI ao) rfl)
  (au (bX T.aH T.aZ (pw 0) (pw 1) rfl))))),?_⟩
 left
 have e:o6.length<=10:=by
  have:=aT (E H (bS.refl _ _)).past;rw[Zj]at this
  lia
 show⟨_,⟨dx,h⟩,_,rfl,dx,_,h,rfl,f,sv,lv,nv,_,p,l,rfl,⟨dx,h⟩,λq g=>⟨by rw[Wx];lia,λa e=> ?_⟩⟩;generalize D:((S.session.next:Int)-100)=m at h e|-;have T:aD H (upd H q (.tup [nv,.int m])):=aD.new g;have v:upd H q (.tup [nv,.int m]) q=some (.tup [nv,.int m]):=av;generalize upd H q (.tup [nv,.int m])=d at T v e|-;have t:aD d (upd d a (.lst [.ref q])):=aD.new e;have g:upd d a (.lst [.ref q]) a=some (.lst [.ref q]):=av;generalize upd d a (.lst [.ref q])=e at t g|-;show⟨p,a,o6,[.ref q],rfl,rfl,t _ _ (T _ _ z),g,by rw[Wx];simp;lia,λb y=> ?_⟩;have x:aD e (upd e b (.lst (o6++[.ref q]))):=aD.new y;have i:upd e b (.lst (o6++[.ref q])) b=some (.lst (o6++[.ref q])):=av;generalize upd e b (.lst (o6++[.ref q]))=g at x i|-;show⟨b,rfl,_,bG.of i,λa G=> ?_⟩;have e:jy (o6++[V.ref q]) (some (-10)) none=(o6++[V.ref q]).drop ((o6++[V.ref q]).length-10):=by unfold jy;rw[HT.mX];rw[NX];show W2 (by rw[Xu];show Wu _)
 rw[e];generalize L:(o6++[V.ref q]).drop ((o6++[V.ref q]).length-10)=i;have e:aD g (upd g a (.lst i)):=aD.new G;have o:upd g a (.lst i) a=some (.lst i):=av;generalize upd g a (.lst i)=y at e o|-;have r:aD d y:=t.trans (x.trans e);have z:=r _ _ (T _ _ h);show⟨dx,_,z,j0,λb g=> ?_⟩;have e:cA (Str.ofString "past") (V.ref a) (cX sv lv nv m p l)=cX sv lv nv m a l:=by unfold cX;walk_at "p"
 rw[e]at g|-;have u:b≠f:=λe=>by rw[e,av]at g;cases g
 rw[aF u]at g;have A:a≠f:=bF o z (by simp);have C:b≠a:=λe=>by rw[e,o]at g;cases g
 have z:cA (Str.ofString "now") j (cA (Str.ofString "undone") (V.ref b) (cX sv lv nv m a l))=cX sv lv j m a b:=by unfold cX;walk_at "p"
 show⟨dx,_,by rw[aF u.symm,av],j0,by unfold cX;walk_at "p",?_⟩;rw[z]
 have z:bS [f] d (upd (upd (upd y f (HO.ins (cc "Session") dx (cX sv lv nv m a l))) b (HO.lst [])) f (HO.ins (cc "Session") dx (cX sv lv j m a b))):=λc F n e=>by
  have y:c≠f:=by simpa using n
  rw[aF y,aF (aA (r _ _ e) g),aF y];show r _ _ e
 have y:d a=none:=by
  cases e:d a with
  |none=>rfl
  |some F=>rw[x _ _ (t _ _ e)]at G;cases G
 have t:d b=none:=by
  cases e:d b with
  |none=>rfl
  |some F=>rw[r _ _ e]at g;cases g
 show k a b _ ((aD.but T _).trans z) (T.free y) (T.free t) (fu.make (C:=cc "Session") (x:=sv) (r:=[]) (dx:=dx) (o6:=i) (CH:=[]) (sv:=sv) (lv:=lv) (nv:=j) z y t ⟨dx,by rw[av];change some (HO.ins _ dx (cX sv lv j m a b))=some (HO.ins _ dx (cX sv lv j ((S.session.next:Int)-100) a b));rw[D]⟩ ?_ ?_ C.symm λG e=> ?_)
 . rw[aF A,aF C.symm,aF A];show o
 . rw[aF u,av]
 . have g:bS [f,p,l] H G:=((aD.but T [f]).trans e).mono (by simp);have a:=E G g;have y:q≠f:=bF v (T _ _ h) (by simp);show⟨a.wm,a.base,cV.ins (cV.same J T) (T _ _ h) e,?_,.nil⟩;have g:Paired (mC G) (V.ref q::o6.reverse) (S.session::S.past):= .cons ⟨q,nv,rfl,by rw[D];show e _ _ (b6 y) v,a.now⟩ a.past;have e:i.reverse=(V.ref q::o6.reverse).take 10:=(by rw[<- L,List.reverse_drop,aaE];change(V.ref q::o6.reverse).take _=_;rw[Nat.sub_sub_eq_min,Nat.min_comm,List.take_eq_take_min (i:=10)];congr 1;simp);rw[e];show sA 10 g
inductive AW(cc:aC->ai)(d:ah V)(H:Hp)(Q:VK)(e:XK):Prop
 |mk (sa dx) (_:d=[.ref sa]) (_:H sa=some (.ins (cc "Session") dx [])) (_:∀b c a,bS [sa] H a->H b=none->H c=none->fu cc a sa b c Vauowc.start->Q .non a):AW cc d H Q e
theorem JN(j:En P w K B base CT cc I):MN P w K B base CT (cc "Session") "Session" 1 ["self"] (AW cc):=by
 show Jm j j.Ao j.e9 ["self"] λf n A t s H c Q E o h u T=> ?_;obtain⟨e,dx,rfl,t,L⟩:=h
 show⟨_,(aE (bX T.aH T.bq (pw 0) (bI ao) rfl)
  (aE (bX T.aH T.bV (pw 0) (bI ao) rfl)
  (aE (bX T.aH T.aZ (pw 0) (bI ao) rfl)
  (aE (bX T.aH T.cJ (pw 0) aO rfl)
  (aE (bX T.aH T.cU (pw 0) (bI ao) rfl)
  (au (bX T.aH T.cP (pw 0) (bI ao) rfl))))))),?_⟩
 left;intro a n;right;obtain⟨l,j,v,o,D⟩:=nM (fs' :=cA (Str.ofString "schema") (V.ref a) []) t n;walk_at "u";show⟨dx,_,o,by decide,λb n=> ?_⟩;generalize c:cA (Str.ofString "schema") (V.ref a) ([]:ah (Str×V))=f at l j v n|-;generalize upd (upd H a (HO.lst [])) e (HO.ins (cc "Session") dx f)=A at l j v n|-;right;obtain⟨m,T,x,g2,E⟩:=nM (fs' :=cA (Str.ofString "loaded") (V.ref b) f) j n;walk_at "u";show⟨dx,_,g2,by subst c;walk_at "p",λd o=> ?_⟩;generalize j:cA (Str.ofString "loaded") (V.ref b) f=n at m T x o|-;generalize upd (upd A b (HO.lst [])) e (HO.ins (cc "Session") dx n)=t at m T x o|-;right;obtain⟨i,f,y,u,M⟩:=nM (fs' :=cA (Str.ofString "made") (V.int 0) (cA (Str.ofString "now") (V.ref d) n)) T o;walk_at "u";show⟨dx,_,u,by subst j;subst c;walk_at "p",by subst j;subst c;walk_at "p",λg k=> ?_⟩;generalize u:cA (Str.ofString "made") (V.int 0) (cA (Str.ofString "now") (V.ref d) n)=o at i f y k|-;generalize upd (upd t d (HO.lst [])) e (HO.ins (cc "Session") dx o)=h at i f y k|-;right;obtain⟨p,n,r,t,F⟩:=nM (fs' :=cA (Str.ofString "past") (V.ref g) o) f k;walk_at "u";show⟨dx,_,t,by subst u;subst j;subst c;walk_at "p",λT f=> ?_⟩;generalize C:cA (Str.ofString "past") (V.ref g) o=t at p n r f|-;generalize upd (upd h g (HO.lst [])) e (HO.ins (cc "Session") dx t)=o at p n r f|-;right;obtain⟨q,s,z,J,G⟩:=nM (fs' :=cA (Str.ofString "undone") (V.ref T) t) n f;walk_at "u";show⟨dx,_,J,by subst C;subst u;subst j;subst c;walk_at "p",?_⟩;have n:cA (Str.ofString "undone") (V.ref T) t=cX (.ref a) (.ref b) (.ref d) 0 g T:=by subst C;subst u;subst j;subst c;unfold cX;walk_at "p"
 rw[n]at s q z|-;generalize upd (upd o T (HO.lst [])) e (HO.ins (cc "Session") dx (cX (.ref a) (.ref b) (.ref d) 0 g T))=J at q s z|-;have C:∀{c o},c≠e->A c=some o->h c=some o:=λ{c o} n j=>i _ _ (b6 n) (m _ _ (b6 n) j);have A:=C D v;have v:=i _ _ (b6 E) x;have u:=p.trans q
 have t:∀{c:ai},c≠e->h c=none->H c=none:=λ{c} n j=>by
  cases e:H c with
  |none=>rfl
  |some o=>rw[C n (l _ _ (b6 n) e)]at j;cases j
 have n:h T=none:=by
  cases e:h T with
  |none=>rfl
  |some o=>rw[p _ _ (b6 G) e]at f;cases f
 have o:=aA r f;show L g T J (l.trans (m.trans (i.trans u))) (t F k) (t G n) (fu.make (C:=cc "Session") (x:= .non) (r:=[]) (dx:=dx) (o6:=[]) (CH:=[]) (sv:= .ref a) (lv:= .ref b) (nv:= .ref d) u k n ⟨dx,s⟩ (q _ _ (b6 F) r) z o λf j=> ?_);show⟨⟨a,[],rfl,j _ _ (b6 D) A,.nil⟩,⟨b,[],rfl,j _ _ (b6 E) v,.nil⟩,⟨d,[],rfl,j _ _ (b6 M) y,.nil⟩,.nil,.nil⟩
structure dX(s:Schema)(db:Db):Prop where
 w:jo s db
 num:∀(t:Nat) rows,db[t]? =some rows->∀r∈rows,∀(c:Nat) v,r.vals[c]? =some v->refersInto s t c=none->isValue v=true
structure fS(s:Schema)(b:Db)(x:Session):Prop where
 base:x.base=b
 now:dX s x.now
 lo:100<=x.next
 hi:x.next<=160
 ids:∀(t:Nat) rows,x.now[t]? =some rows->∀r∈rows,(r.id<100/\(rowAt b t r.id).isSome=true)∨(100<=r.id/\r.id<x.next)
structure pK(S:aI):Prop where
 so:AJ S.schema
 base:dX S.schema S.session.base
 J2:∀(t:Nat) rows,S.session.base[t]? =some rows->∀r∈rows,r.id<100
 fT:fS S.schema S.session.base S.session
 past:∀x∈S.past,fS S.schema S.session.base x
 L7:∀x∈S.undone,fS S.schema S.session.base x
 few:S.past.length+S.undone.length<=10
def kQ(cc:aC->ai)(H:Hp)(b a c:ai)(S:aI):Prop:=pK S/\fu cc H b a c S
def JP(S:aI)(t:Int):Int:=if 0<=t/\t<(S.schema.length:Int)then 0 else-3
noncomputable def j3 (S:aI) (t i:Int):Int:=if 0<=t/\t<(S.schema.length:Int)then(if(bK (tableAt S.session.now t.toNat) i).isSome=true then 0 else-5)else-3
noncomputable def lA (S:aI) (t c:Int):Int:=if 0<=t/\t<(S.schema.length:Int)then(if 0<=c/\c<((columnsOf S.schema t.toNat).length:Int)then 0 else-7)else-3
noncomputable def oF (S:aI) (t i u c:Int):Int:=if j3 S t i=0 then(if lA S u c=0 then(if refersInto S.schema u.toNat c.toNat=some t.toNat then 0 else-8)else lA S u c)else j3 S t i
inductive Sj(H:Hp)(v:V)(b:Db)(t:Nat):Prop
 |mk (a vs d rs rows) (_:v= .ref a) (_:H a=some (.lst vs)) (_:vs[t]? =some (.ref d)) (_:b[t]? =some rows) (_:H d=some (.dK (aL rs))) (_:(∀z∈rs,H z.2=some (.tup (aG z.1.vals)))) (_:(rs.map (·.1)).Perm rows) (_:b4 rows):Sj H v b t
theorem j4{t:Nat}(h:cV H v a)(b:t<a.length):Sj H v a t:=by obtain⟨H,k,rfl,f,g⟩:=h;have a:=Wr b;obtain⟨x,i,d,j,rfl,h,b,c,e⟩:=b_ g a;show⟨H,k,d,j,_,rfl,f,i,a,h,b,c,e⟩
inductive OV(cc:aC->ai)(H:Hp)(v:V)(s:Schema)(t:Nat):Prop
 |mk (a vs ca cs tb) (_:v= .ref a) (_:H a=some (.lst vs)) (_:vs[t]? =some (.ref ca)) (_:s[t]? =some tb) (_:H ca=some (.lst cs)) (_:Paired (AG cc H) cs tb.columns):OV cc H v s t
theorem pL{t:Nat}(h:eL cc H v s)(b:t<s.length):OV cc H v s t:=by obtain⟨H,i,rfl,e,f⟩:=h;have a:=Wr b;obtain⟨x,g,b,c,rfl,h,d⟩:=b_ f a;show⟨H,i,b,c,_,rfl,e,g,a,h,d⟩
theorem fH{t:Nat}(h:s[t]? =some a):columnsOf s t=a.columns:=by unfold columnsOf;rw[h];rfl
inductive L_(cc:aC->ai)(a:ah V)(H:Hp)(Q:VK)(b:XK):Prop
 |mk (sa pa ua S t) (_:a=[.ref sa,.int t]) (_:kQ cc H sa pa ua S) (_:Q (.int (JP S t)) H):L_ cc a H Q b
theorem iH(a:En P w K B base CT cc I):fc P w K B base CT "refuse_table" 1 ["session","table"] (L_ cc):=by show cg a a.fs.ug ["session","table"] λf z A S s H d Q E b h c T=> ?_;obtain⟨b,a,c,S,t,rfl,⟨f,z⟩,k⟩:=h;show⟨_,(au (aJ (jP (mW mV rS aO (pw 1) (bw b5 rfl T.cO Xy (aj (aW T.aH T.bq (pw 0)) ao))) aO (bA rfl T.lM)))),?_⟩;right;obtain⟨c,T,b,f,s,a,h⟩:=z.read;obtain⟨b,f,rfl,z,T⟩:=h.wm;have h:=aT T;unfold JP at k;left;by_cases T:0<=t;rw[Wt T];show⟨_,a,_,rfl,b,rfl,_,.inl (bG.of z),?_⟩;rw[h];by_cases a:t<(S.schema.length:Int);rw[Wt a];rw[Wt ⟨T,a⟩]at k;show k;rw[Wn a];rw[Wn (λz=>a z.2)]at k;show k;rw[Wn T];rw[Wn (λz=>T z.1)]at k;show k
inductive Ma(cc:aC->ai)(a:ah V)(H:Hp)(Q:VK)(b:XK):Prop
 |mk (sa pa ua S t i) (_:a=[.ref sa,.int t,.int i]) (_:kQ cc H sa pa ua S) (_:Q (.int (j3 S t i)) H):Ma cc a H Q b
theorem fm(e:En P w K B base CT cc I):fc P w K B base CT "refuse_object" 2 ["session","table","number"] (Ma cc):=by
 show cg e e.fs.sN ["session","table","number","refusal"] λd c A r s H a Q E b h f T=> ?_;have d:=d8 b;obtain⟨r,c,g,S,t,i,rfl,a,k⟩:=h
 show⟨_,(aE (aP 3 f.nd (aR (iH e) b aM (aj (pw 0) (aj (pw 1) ao))))
  (aE (bz (PW.pt (gK (aQ cM (pw 3) aO (a_ _)) (gY (gX (fW d (pw 2) (bH aY (aW T.aH T.aZ (pw 0)) (pw 1)))))))
  (au (aJ (bA rfl T.jg)))
  aN)
  (au (aJ (pw 3))))),?_⟩
 have m:=a.1;obtain⟨h,d,e,b,A,f,j⟩:=a.2.read;left;show⟨r,c,g,S,t,rfl,a,?_⟩;unfold j3 at k;unfold JP;by_cases T:0<=t/\t<(S.schema.length:Int);rw[Wt T]at k|-;show⟨rfl,?_⟩;rw[Wt rfl];right;obtain⟨n,rfl⟩:=WO T.1;rw[WQ]at k;obtain⟨l,A,d,E,r,rfl,c,e,g,h,a,b,S⟩:=j4 j.now (t:=n) (by rw[m.fT.now.w.fit.len];lia);walk_at "u";show⟨_,f,_,rfl,l,rfl,_,bG.of c,_,bJ e,d,rfl,_,dJ.k (k:=Sum.inl i) h,?_⟩;rw[bT g]at k;cases e:bK r i with
 |none=>rw[(bZ a b S i).1 e,Wt rfl];rw[e]at k;show k
 |some r=>obtain⟨c,d,_⟩:=(bZ a b S i).2 r e;rw[d,Wn (by simp)];rw[e]at k;show k
 rw[Wn T]at k|-;show⟨rfl,?_⟩;rw[Wn (by simp)];show k
inductive Mb(cc:aC->ai)(a:ah V)(H:Hp)(Q:VK)(b:XK):Prop
 |mk (sa pa ua S t c) (_:a=[.ref sa,.int t,.int c]) (_:kQ cc H sa pa ua S) (_:Q (.int (lA S t c)) H):Mb cc a H Q b
theorem jq(a:En P w K B base CT cc I):fc P w K B base CT "refuse_column" 2 ["session","table","index"] (Mb cc):=by
 show cg a a.fs.sO ["session","table","index","refusal"] λf d A b s H g Q E z h e T=> ?_;obtain⟨f,d,g,S,t,c,rfl,b,k⟩:=h
 show⟨_,(aE (aP 3 e.nd (aR (iH a) z aM (aj (pw 0) (aj (pw 1) ao))))
  (aE (bz (PW.pt (gK (aQ cM (pw 3) aO (a_ _)) (gY (gM (mW mV rS aO (pw 2) (bw b5 rfl T.cO Xy (aj (bH aY (aW T.aH T.bq (pw 0)) (pw 1)) ao)))))))
  (au (aJ (bA rfl T.jh)))
  aN)
  (au (aJ (pw 3))))),?_⟩
 have a:=b.1;obtain⟨A,a,z,h,s,e,T⟩:=b.2.read;left;show⟨f,d,g,S,t,rfl,b,?_⟩;unfold lA at k;unfold JP;by_cases b:0<=t/\t<(S.schema.length:Int);rw[Wt b]at k|-;show⟨rfl,?_⟩;rw[Wt rfl];right;obtain⟨n,rfl⟩:=WO b.1;rw[WQ]at k;obtain⟨g,s,a,A,i,rfl,f,h,d,z,S⟩:=pL T.wm (t:=n) (by lia);walk_at "u";have T:=fH d;have d:=aT S;rw[T]at k;by_cases T:0<=c;rw[Wt T];show⟨_,e,_,rfl,g,rfl,_,bG.of f,_,bJ h,a,rfl,_,.inl (bG.of z),?_⟩;rw[d];by_cases a:c<(i.columns.length:Int);rw[Wt ⟨T,a⟩]at k;rw[Wt a];show k;rw[Wn (λz=>a z.2)]at k;rw[Wn a];show k;rw[Wn (λz=>T z.1)]at k;rw[Wn T];show k;rw[Wn b]at k|-;show⟨rfl,?_⟩;rw[Wn (by simp)];show k
theorem qy{t c:Nat}(h:(columnsOf s t)[c]? =some a):refersInto s t c=match a.kind with| .ref u _ _=>some u|_=>none:=by unfold refersInto;rw[h];rfl
theorem G7(h:Paired (AG cc H) e d)(f:c<d.length):∃a b,e[c]? =some (.ref a)/\d[c]? =some b/\Ob H a (cc "Column") (oB b):=by have b:=Wr f;obtain⟨x,e,a,rfl,d⟩:=b_ h b;show⟨a,_,e,b,d⟩
theorem AX{t i:Int}(h:j3 S t i=0):0<=t/\t<(S.schema.length:Int)/\∃r,bK (tableAt S.session.now t.toNat) i=some r:=by unfold j3 at h;split at h;rename_i a;split at h;rename_i b;show⟨a.1,a.2,YJ.mp b⟩;cases h;cases h
theorem gS{t c:Int}(h:lA S t c=0):0<=t/\t<(S.schema.length:Int)/\0<=c/\c<((columnsOf S.schema t.toNat).length:Int):=by unfold lA at h;split at h;rename_i a;split at h;rename_i b;show⟨a.1,a.2,b.1,b.2⟩;cases h;cases h
inductive Mf(cc:aC->ai)(a:ah V)(H:Hp)(Q:VK)(b:XK):Prop
 |mk (sa pa ua S t i u c) (_:a=[.ref sa,.int t,.int i,.int u,.int c]) (_:kQ cc H sa pa ua S) (_:Q (.int (oF S t i u c)) H):Mf cc a H Q b
theorem o7(a:En P w K B base CT cc I):fc P w K B base CT "refuse_list" 3 ["session","table","number","other","index"] (Mf cc):=by
 show cg a a.fs.wU ["session","table","number","other","index","refusal"] λf S A d s H l Q E z h sc T=> ?_;obtain⟨e,d,f,S,t,i,u,c,rfl,b,k⟩:=h
 show⟨_,(aK (aP 5 sc.nd (aR (fm a) z aM (aj (pw 0) (aj (pw 1) (aj (pw 2) ao)))))
  (aK (bz (aQ cM (pw 5) aO (a_ _))
  (au (aP 5 sc.nd (aR (jq a) z aM (aj (pw 0) (aj (pw 3) (aj (pw 4) ao))))))
  aN)
  (aK (bz (PW.pt (gK (aQ cM (pw 5) aO (a_ _)) (gY (aQ fK (aW T.bL T.bR (bH aY (bH aY (aW T.aH T.bq (pw 0)) (pw 3)) (pw 4))) (pw 1) (a_ _)))))
  (au (aJ (bA rfl T.h_)))
  aN)
  (au (aJ (pw 5)))))),?_⟩
 have h:=b.1;obtain⟨j,h,z,a,l,g,T⟩:=b.2.read;have h:∀z,j3 S t i=z->z=0∨z≠0:=λz _=>Decidable.em _;left;show⟨e,d,f,S,t,i,rfl,b,?_⟩;left;unfold oF at k;by_cases a:j3 S t i=0;rw[Wt a]at k;rw[Wt (by rw[a])];show⟨e,d,f,S,u,c,rfl,b,?_⟩;by_cases b:lA S u c=0;rw[Wt b]at k;left;rw[Wt (by rw[b])];right;obtain⟨h,f,z,S⟩:=gS b;obtain⟨d,_,_⟩:=AX a;obtain⟨un,rfl⟩:=WO h;obtain⟨u,rfl⟩:=WO z;obtain⟨p,rfl⟩:=WO d;rw[WQ]at S k;rw[WQ,WQ]at k;obtain⟨m,n,z,f,l,rfl,j,d,h,e,o⟩:=pL T.wm (t:=un) (by lia);have f:=fH h;rw[f]at S;obtain⟨l,n,h,S,T⟩:=G7 o (c:=u) (by lia);walk_at "u";rw[qy (by rw[f];show S)]at k;cases S:n.kind with
 |number lo f=>rw[S]at k;rw[lU S]at T;show⟨_,g,_,rfl,m,rfl,_,bG.of j,_,bJ d,z,rfl,_,bG.of e,_,bJ h,l,rfl,_,T,.non,rfl,rfl,.inr ⟨by simp,?_⟩⟩;rw[Wn (by simp)]at k;show k
 |ref w u f=>rw[S]at k;rw[gJ S]at T;show⟨_,g,_,rfl,m,rfl,_,bG.of j,_,bJ d,z,rfl,_,bG.of e,_,bJ h,l,rfl,_,T,_,rfl,rfl,?_⟩;by_cases hw:w=p;rw[Wt (by rw[hw])]at k;show .inl ⟨by rw[hw],?_⟩;rw[b];left;show k;rw[Wn (by simpa using hw)]at k;show .inr ⟨by simp;lia,k⟩
 rw[Wn b]at k;left;rw[Wn (by simpa using b)];left;show k;rw[Wn a]at k;rw[Wn (by simpa using a)];left;rw[Wn (by simpa using a)];left;show k
noncomputable def j5 (b:Db) (a:Column) (v:Int):Bool:=match a.kind with
 | .ref u _ _=>v==0||(bK (tableAt b u) v).isSome
 |_=>isValue v
theorem sC{t c:Nat}(h:(columnsOf s t)[c]? =some b) v:settable s a t c v=j5 a b v:=by
 unfold settable j5;rw[qy h];cases b.kind with
 |number lo b=>rfl
 |ref u h b=>change(v==0||(decide (0<v)&&(rowAt a u v.toNat).isSome))=(v==0||(bK (tableAt a u) v).isSome);unfold bK rowAt;by_cases a:v=0;simp[a];by_cases a:v<0;rw[Wt a,WC (by lia)];rfl;rw[Wn a,WK (by lia),ZU]
inductive EC(cc:aC->ai)(a:ah V)(H:Hp)(Q:VK)(b:XK):Prop
 |mk (ca dv v col db) (_:a=[.ref ca,dv,.int v]) (_:Ob H ca (cc "Column") (oB col)) (_:cV H dv db) (_:iC db col.kind) (_:Q (.bl (j5 db col v)) H):EC cc a H Q b
theorem lY(e:En P w K B base CT cc I):fc P w K B base CT "can_be_set" 2 ["column","tables","value"] (EC cc):=by
 show cg e e.fs.Bp ["column","tables","value"] λa b A d s H i Q E c f g T=> ?_;have g:=d8 c;obtain⟨i,j,v,d,h,rfl,a,m,b,k⟩:=f
 show⟨_,(aE (bz (aQ uB (aW T.bL T.bR (pw 0)) iM (a_ _))
  (au (aJ (aR (vp e) c aM (aj (pw 2) ao))))
  aN)
  (au (aJ (Kc (jx cM (pw 2) aO (a_ _)) (ux (FQ (m9 g (pw 2) (bH aY (pw 1) (aW T.bL T.bR (pw 0)))))))))),?_⟩
 left;unfold j5 at k;cases e:d.kind with
 |number lo c=>rw[e]at k;rw[lU e]at a;show⟨_,a,.non,rfl,?_⟩;rw[Wt rfl];show⟨v,rfl,k⟩
 |ref u d c=>
  rw[e]at k b;rw[gJ e]at a;show⟨_,a,_,rfl,?_⟩;rw[Wn (by simp)];have b:=b;obtain⟨g,A,f,E,n,rfl,l,i,e,j,c,T,d⟩:=j4 m b;have k:Q (.bl (v==0||(bK (tableAt h u) v).isSome)) H:=k;rw[bT e]at k;by_cases e:v=0;rw[Wt e];rw[e]at k;show k;rw[Wn e];have b:(v==0)=false:=by simpa using e
  rw[b,aa2]at k;show⟨_,a,_,rfl,g,rfl,_,_,rfl,bG.of l,_,bJ i,f,rfl,_,dJ.k (k:=Sum.inl v) j,?_⟩;cases e:bK n v with
  |none=>rw[(bZ c T d v).1 e];rw[e]at k;show k
  |some r=>obtain⟨a,b,_⟩:=(bZ c T d v).2 r e;rw[b];rw[e]at k;show k
inductive ED(cc:aC->ai)(b:ah V)(H:Hp)(Q:VK)(c:XK):Prop
 |mk (a d e:ai) (S:aI) (t:Nat) (_:b=[.ref a,.int t]) (_:kQ cc H a d e S) (_:t<S.schema.length) (_:Q (.bl (decide (8<=(tableAt S.session.now t).length))) H):ED cc b H Q c
theorem AY(a:En P w K B base CT cc I):fc P w K B base CT "is_full" 1 ["session","table"] (ED cc):=by
 show cg a a.fs.IY ["session","table"] λf b A g s H d Q E e h c T=> ?_;obtain⟨g,e,c,S,t,rfl,a,b,k⟩:=h;show⟨_,(au (aJ (jx Oj (bw nX rfl T.cO Xy (aj (bH aY (aW T.aH T.aZ (pw 0)) (pw 1)) ao)) (bA rfl T.jf) (a_ _)))),?_⟩;have l:=a.1;right;obtain⟨c,b,e,h,A,f,g⟩:=a.2.read;obtain⟨i,E,d,a,T,rfl,c,e,b,h,A,j,H⟩:=j4 g.now (t:=t) (by rw[l.fT.now.w.fit.len];lia);rw[bT b]at k;have g:a.length=T.length:=by have:=j.length_eq;rw[Wl]at this;show this
 left;have b:(aL a).length=T.length:=by unfold aL;rw[Wl,g]
 show⟨_,f,_,rfl,i,rfl,_,bG.of c,_,bJ e,d,rfl,_,h,?_⟩;rw[b]
 have e:decide ((8:Int)<=(T.length:Int))=decide (8<=T.length):=by
  congr 1;apply propext
  lia
 rw[e];show k
theorem Sl:∀l:ah Int,PyData.canLayAll0 (l.map PyData.int)=true
 |[]=>rfl
 |_::l=>by simp[PyData.canLayAll0,PyData.canLay0,Sl l]
theorem Sn:∀l:ah Int,PyData.depthAll (l.map PyData.int)=0
 |[]=>rfl
 |_::l=>by simp[PyData.depthAll,PyData.depth,Sn l]
theorem Iu(l:ah Int):SeqAt.shaped (.tuple (l.map PyData.int))=true:=by simp[SeqAt.shaped,PyData.canLay0,PyData.depth,Sl,Sn]
theorem Sq:∀l m:ah Int,PyData.eqvAll (l.map PyData.int) (m.map PyData.int)=decide (l=m)
 |[],[]=>rfl
 |[],_::_=>by simp[PyData.eqvAll]
 |_::_,[]=>by simp[PyData.eqvAll]
 |a::l,b::m=>by simp only[WM,PyData.eqvAll,PyData.eqv,Sq l m];by_cases h:a=b<;>by_cases c:l=m<;>simp[h,c]
theorem UG{K:ay}:∀l,uK K H (aG l) (l.map PyData.int)
 |[]=> .nil
 |a::l=> .cons (.int a) (UG l)
theorem NZ{K:ay}{H:Hp}{a b:ai}{l m:ah Int}{Q:VK}(c:H a=some (.tup (aG l)))(d:H b=some (.tup (aG m)))(k:Q (.bl (decide (l=m))) H):Rw K (.ref a) (.ref b) H Q:=by show⟨.tuple (l.map PyData.int),.tuple (m.map PyData.int),.tup (dO.of c) (UG l),.tup (dO.of d) (UG m),Iu l,Iu m,?_⟩;rw[show PyData.eqv (.tuple (l.map PyData.int)) (.tuple (m.map PyData.int))=decide (l=m)from by rw[<- Sq];simp only[PyData.eqv]];show k
theorem iI(h:bK a i=some r):0<=i/\i.toNat=r.id:=by unfold bK at h;split at h;cases h;show⟨by lia,?_⟩;have:=XQ h;simp at this;show this.symm
theorem Iv{q r:aB}(a:q.id=r.id)(b:q.vals=r.vals):q=r:=by cases q;cases r;simp only at a b;rw[a,b]
inductive vM(cc:aC->ai)(b:ah V)(H:Hp)(Q:VK)(c:XK):Prop
 |mk (a d e:ai) (S:aI) (t:Nat) (i:Int) (r:aB) (_:b=[.ref a,.int t,.int i]) (_:kQ cc H a d e S) (_:t<S.schema.length) (_:bK (tableAt S.session.now t) i=some r) (_:Q (.int (rowState S.session t r)) H):vM cc b H Q c
theorem pM(a:En P w K B base CT cc I):fc P w K B base CT "standing" 1 ["session","table","number"] (vM cc):=by
 show cg a a.fs.FG ["session","table","number","same"] λf z A c s H v Q E e h n T=> ?_;have a:=d8 e;have z:=e.units;obtain⟨v,q,s,S,t,i,r,rfl,c,f,e,k⟩:=h
 show⟨_,(aK (bz (gX (fW a (pw 2) (bH aY (aW T.aH T.bV (pw 0)) (pw 1))))
  (au (aJ (bA rfl T.k_)))
  aN)
  (aK (aP 3 n.nd (jx (PD z) (er a (bH aY (aW T.aH T.aZ (pw 0)) (pw 1)) (pw 2)) (er a (bH aY (aW T.aH T.bV (pw 0)) (pw 1)) (pw 2)) (a_ _)))
  (au (aJ (jP (dg (pw 3)) (bA rfl T.je) (bA rfl T.g5)))))),?_⟩
 have q:=c.1;right;obtain⟨v,z,a,n,f,b,T⟩:=c.2.read;obtain⟨x,z,m,c,a,rfl,s,o,n,p,v,y,A⟩:=j4 T.now (t:=t) (by rw[q.fT.now.w.fit.len];lia);obtain⟨h,E,ld,u,a,rfl,c,d,z,f,g,j,l⟩:=j4 T.base (t:=t) (by rw[q.base.w.fit.len];lia);rw[bT n]at e;obtain⟨n,T⟩:=iI e;obtain⟨q,n,u⟩:=(bZ v y A i).2 r e
 have v:rowState S.session t r=match bK a i with|none=>1|some q=>if q.vals=r.vals then 0 else 2:=by
  unfold rowState rowAt;rw[bT z];have e:bK a i=findRow a r.id:=by unfold bK;rw[Wn (by lia),T]
  rw[e];cases T:findRow a r.id with
  |none=>rfl
  |some q=>have z:q.id=r.id:=(by simpa using XQ T);change(if q=r then _ else _)=(if q.vals=r.vals then _ else _);by_cases T:q.vals=r.vals;rw[Wt T,Wt (Iv z T)];rw[Wn T,Wn (λz=>T (by rw[z]))]
 rw[v]at k;left;show⟨_,b,_,rfl,h,rfl,_,bG.of c,_,bJ d,ld,rfl,_,dJ.k (k:=Sum.inl i) f,?_⟩;cases e:bK a i with
 |none=>rw[(bZ g j l i).1 e,Wt rfl];rw[e]at k;show k
 |some q=>obtain⟨v,a,S⟩:=(bZ g j l i).2 q e;rw[e]at k;rw[a,Wn (by simp)];left;show⟨_,b,_,rfl,x,rfl,_,bG.of s,_,bJ o,m,rfl,_,n▸dJ.k (k:=Sum.inl i) p,_,b,_,rfl,h,rfl,_,bG.of c,_,bJ d,ld,rfl,_,a▸dJ.k (k:=Sum.inl i) f,?_⟩;show NZ u S ?_;have k:Q (.int (if q.vals=r.vals then 0 else 2)) H:=k;by_cases T:q.vals=r.vals;rw[Wt T]at k;left;rw[Wt T.symm];show k;rw[Wn T]at k;left;rw[Wn λz=>T z.symm];show k
noncomputable def Cr (S:aI) (t:Int) (n:Nat):Int:=if 0<=t/\t<(S.schema.length:Int)then(if n=(columnsOf S.schema t.toNat).length then(if 8<=(tableAt S.session.now t.toNat).length then-6 else if 160<=S.session.next then-10 else 0)else-7)else-3
inductive Mg(K:ay)(cc:aC->ai)(a:ah V)(H:Hp)(Q:VK)(b:XK):Prop
 |mk (sa pa ua S t va l) (_:a=[.ref sa,.int t,.ref va]) (_:kQ cc H sa pa ua S) (_:bG K H va l) (_:Q (.int (Cr S t l.length)) H):Mg K cc a H Q b
theorem Ct(a:En P w K B base CT cc I):fc P w K B base CT "refuse_new" 2 ["session","table","values"] (Mg K cc):=by
 show cg a a.fs.Bq ["session","table","values","refusal"] λf m A b s H d Q E c h i T=> ?_;obtain⟨f,e,g,S,t,m,l,rfl,b,p,k⟩:=h
 show⟨_,(aK (aP 3 i.nd (aR (iH a) c aM (aj (pw 0) (aj (pw 1) ao))))
  (aK (bz (aQ fK (pw 3) aO (a_ _))
  (au (aJ (pw 3)))
  aN)
  (aK (bz (aQ fK (bw b5 rfl T.cO Xy (aj (pw 2) ao)) (bw b5 rfl T.cO Xy (aj (bH aY (aW T.aH T.bq (pw 0)) (pw 1)) ao)) (a_ _))
  (au (aJ (bA rfl T.jh)))
  aN)
  (aK (bz (dg (aR (AY a) c aM (aj (pw 0) (aj (pw 1) ao))))
  (au (aJ (bA rfl T.ic)))
  aN)
  (au (aJ (jP (aQ Oj (aW T.aH T.cJ (pw 0)) (bA rfl T.lN) (a_ _)) (bA rfl T.gD) aO))))))),?_⟩
 have T:=b.1;obtain⟨c,T,a,m,h,d,i⟩:=b.2.read;left;show⟨f,e,g,S,t,rfl,b,?_⟩;unfold Cr at k;unfold JP;by_cases c:0<=t/\t<(S.schema.length:Int);rw[Wt c]at k|-;left;left;right;obtain⟨n,rfl⟩:=WO c.1;rw[WQ]at k;obtain⟨q,s,T,A,r,rfl,o,a,m,h,j⟩:=pL i.wm (t:=n) (by lia);walk_at "u";have i:=fH m;have m:=aT j;rw[i]at k;show⟨_,.inl p,_,d,_,rfl,q,rfl,_,bG.of o,_,bJ a,T,rfl,_,.inl (bG.of h),?_⟩;rw[m];by_cases a:l.length=r.columns.length;rw[Wt a]at k;show .inl ⟨a,?_⟩;left;show⟨f,e,g,S,n,rfl,b,by lia,?_⟩;by_cases T:8<=(tableAt S.session.now n).length;rw[Wt T]at k;show .inr ⟨by rw[WK T],k⟩;rw[Wn T]at k;show .inl ⟨by rw[WC T],?_⟩;left;show⟨_,d,_,rfl,_,rfl,?_⟩;by_cases T:160<=S.session.next;rw[Wt T]at k;rw[Wt (by lia)];show k;rw[Wn T]at k;rw[Wn (by lia)];show k;rw[Wn a]at k;show .inr ⟨a,k⟩;rw[Wn c]at k|-;left;show k
theorem gT{t:Nat}(h:r∈tableAt b t):∃a,b[t]? =some a/\r∈a:=by
 unfold tableAt at h;cases e:b[t]? with
 |none=>rw[e]at h;cases h
 |some a=>rw[e]at h;show⟨a,rfl,h⟩
theorem AZ:∀l,(VauowBase.putIn r l).length<=l.length+1
 |[]=>Wu _
 |a::l=>by
  rw[VauowBase.putIn];split;show Wu _;split;simp;have:=AZ (r:=r) l;simp only[WG]
  lia
theorem Cu(a:b4 l)(h:∃q∈l,q.id=r.id):(VauowBase.putIn r l).length=l.length:=by rw[gw a h,Wl]
structure dZ(s:Schema)(t:Nat)(r:aB):Prop where
 pos:1<=r.id
 rD:r.vals.length=(columnsOf s t).length
 num:∀(c:Nat) v,r.vals[c]? =some v->refersInto s t c=none->isValue v=true
theorem dX.row(g:dX s c){t:Nat}(h:c[t]? =some a)(b:r∈a):dZ s t r:=⟨g.w.pos t a h r b,g.w.fit.rD t a h r b,g.num t a h r b⟩
theorem dX.mk'(c:db.length=s.length)(h:∀(t:Nat) a,db[t]? =some a->a.length<=8/\b4 a/\∀r∈a,dZ s t r):dX s db:=
 ⟨⟨⟨c,λt a e=>(h t a e).1,λt a e r b=>((h t a e).2.2 r b).rD⟩,λt a e=>(h t a e).2.1,λt a e r b=>((h t a e).2.2 r b).pos⟩,λt a e r b=>((h t a e).2.2 r b).num⟩
theorem Mh{t j:Nat}(h:(putRow a t r)[j]? =some b):(j=t/\t<a.length/\b=VauowBase.putIn r (tableAt a t))∨(j≠t/\a[j]? =some b):=by unfold putRow at h;by_cases b:j=t;subst b;by_cases t:j<a.length;rw[Xe t]at h;show .inl ⟨rfl,t,(W5 h).symm⟩;rw[Xh (by rw[XM];lia)]at h;cases h;rw[Xn (λz=>b z.symm)]at h;show .inr ⟨b,h⟩
theorem dX.put(g:dX s a){t:Nat}(i:dZ s t r)(c:(tableAt a t).length<8∨∃q∈tableAt a t,q.id=r.id):dX s (putRow a t r):=by
 show dX.mk' (by unfold putRow;rw[XM];show g.w.fit.len) λj h e=> ?_;rcases Mh e with⟨rfl,b,rfl⟩|⟨_,e⟩
 have d:a[j]? =some (tableAt a j):=by unfold tableAt;rw[Wr b];rfl
 have f:=g.w.ri j _ d;show⟨?_,iD f,λq b=> ?_⟩;rcases c with c|c
 have:=AZ (r:=r) (tableAt a j)
 lia
 rw[Cu f c];show g.w.fit.few j _ d;rcases oi r _ q b with rfl|b
 show i;show g.row d b;show⟨g.w.fit.few j h e,g.w.ri j h e,λq b=>g.row e b⟩
theorem pK.become(ok:pK S)(y:fS S.schema S.session.base x):pK {schema:=S.schema,session:=x,past:=(S.session::S.past).take 10,undone:=[]}:=by
 have a:=y.base;show⟨ok.so,?_,?_,?_,?_,?_,?_⟩;rw[a];show ok.base;rw[a];show ok.J2;rw[a];show y;change∀y∈(S.session::S.past).take 10,fS S.schema x.base y;rw[a];intro y a;rcases WB.mp (aby a)with rfl|a
 show ok.fT;show ok.past y a;intro y a;cases a;change((S.session::S.past).take 10).length+0<=10;rw[Xo]
 lia
theorem fS.put(ok:fS s b x){t:Nat}(f:dZ s t r)(h:(tableAt x.now t).length<8∨∃q∈tableAt x.now t,q.id=r.id)(a:x.next<=n)(d:n<=160)
 (c:(r.id<100/\(rowAt b t r.id).isSome=true)∨(100<=r.id/\r.id<n)):fS s b {base:=x.base,now:=putRow x.now t r,next:=n}:=by
 show⟨ok.base,ok.now.put f h,Xi ok.lo a,d,λj s e q x=> ?_⟩;rcases Mh e with⟨rfl,b,rfl⟩|⟨_,e⟩
 rcases oi r _ q x with rfl|x
 show c;obtain⟨d,b,c⟩:=gT x;rcases ok.ids j d b q c with h|h
 show .inl h;show .inr ⟨h.1,W4 h.2 a⟩;rcases ok.ids j s e q x with h|h
 show .inl h;show .inr ⟨h.1,W4 h.2 a⟩
theorem gO S t f:onTable S t f=if 0<=t/\t<(S.schema.length:Int)then f t.toNat else(S,[-3]):=by unfold onTable;by_cases h:0<=t/\t<(S.schema.length:Int);rw[Wt h,Wn (by lia)];rw[Wn h,Wt (by lia)]
theorem EE S t i f:Vauowc.onRow S t i f=if 0<=t/\t<(S.schema.length:Int)then(match bK (tableAt S.session.now t.toNat) i with|none=>(S,[-5])|some r=>f t.toNat i.toNat r)else(S,[-3]):=by unfold Vauowc.onRow;rw[gO];by_cases h:0<=t/\t<(S.schema.length:Int);rw[Wt h,Wt h];unfold bK rowAt;by_cases a:i<0;rw[Wt a,Wt a];rw[Wn a,Wn a];cases findRow (tableAt S.session.now t.toNat) i.toNat<;>rfl;rw[Wn h,Wn h]
theorem lB{t i:Int} f(h:j3 S t i≠0):Vauowc.onRow S t i f=(S,[j3 S t i]):=by rw[EE];unfold j3 at h|-;split;rename_i a;rw[Wt a]at h;split;rename_i e;rw[e];rfl;rename_i r e;rw[e]at h;show absurd rfl h;rfl
inductive OW(S:aI)(t i:Int)(f:Nat->Nat->aB->aI×ah Int):Prop
 |mk (r) (_:bK (tableAt S.session.now t.toNat) i=some r) (_:0<=t) (_:t<(S.schema.length:Int)) (_:Vauowc.onRow S t i f=f t.toNat i.toNat r):OW S t i f
theorem gU{t i:Int} f(h:j3 S t i=0):OW S t i f:=by obtain⟨a,b,r,c⟩:=AX h;show⟨r,c,a,b,?_⟩;rw[EE,Wt ⟨a,b⟩,c]
theorem nO{t c:Int} f(a:0<=t/\t<(S.schema.length:Int))(h:lA S t c≠0):onColumn S t.toNat c f=(S,[lA S t c]):=by unfold lA at h|-;rw[Wt a]at h|-;unfold onColumn;by_cases a:0<=c/\c<((columnsOf S.schema t.toNat).length:Int);rw[Wt a]at h;show absurd rfl h;rw[Wn a,Wt (by lia)]
theorem jF{t c:Int} f(h:lA S t c=0):onColumn S t.toNat c f=f c.toNat:=by obtain⟨_,_,f,S⟩:=gS h;unfold onColumn;rw[Wn (by lia)]
theorem A0{t i u c:Int} f(b:j3 S t i=0)(h:oF S t i u c≠0):onLink S t.toNat u c f=(S,[oF S t i u c]):=by unfold oF at h|-;rw[Wt b]at h|-;unfold onLink;rw[gO];by_cases a:lA S u c=0;rw[Wt a]at h|-;obtain⟨b,d,_,_⟩:=gS a;rw[Wt ⟨b,d⟩,jF _ a];by_cases b:refersInto S.schema u.toNat c.toNat=some t.toNat;rw[Wt b]at h;show absurd rfl h;rw[Wn b,Wn b];rw[Wn a];by_cases h:0<=u/\u<(S.schema.length:Int);rw[Wt h,nO _ h a];rw[Wn h];unfold lA;rw[Wn h]
theorem lZ{t i u c:Int} f(h:oF S t i u c=0):j3 S t i=0/\lA S u c=0/\refersInto S.schema u.toNat c.toNat=some t.toNat/\onLink S t.toNat u c f=f u.toNat c.toNat:=by unfold oF at h;by_cases b:j3 S t i=0;rw[Wt b]at h;by_cases a:lA S u c=0;rw[Wt a]at h;by_cases d:refersInto S.schema u.toNat c.toNat=some t.toNat;show⟨b,a,d,?_⟩;unfold onLink;obtain⟨f,u,_,_⟩:=gS a;rw[gO,Wt ⟨f,u⟩,jF _ a,Wt d];rw[Wn d]at h;cases h;rw[Wn a]at h;show absurd h a;rw[Wn b]at h;show absurd h b
theorem Qv{t:Int}(h:Cr S t l.length≠0):Vauowc.step S (.new t l)=(S,[Cr S t l.length]):=by change onTable S t (λa=>newing S a l)=_;rw[gO];unfold Cr at h|-;by_cases a:0<=t/\t<(S.schema.length:Int);rw[Wt a]at h|-;rw[Wt a];unfold newing;by_cases b:l.length=(columnsOf S.schema t.toNat).length;rw[Wt b]at h|-;rw[Wn (by simpa using b)];by_cases c:8<=(tableAt S.session.now t.toNat).length;rw[Wt c,Wt (show ROWS<=_ from c)];rw[Wn c]at h|-;rw[Wn (show¬ROWS<=_ from c)];by_cases c:160<=S.session.next;rw[Wt c,Wt (show FIRSTNEW+NEWS<=_ from c)];rw[Wn c]at h;show absurd rfl h;rw[Wn b,Wt (by simpa using b)];rw[Wn a,Wn a]
theorem N1{t:Int}(h:Cr S t l.length=0):0<=t/\t<(S.schema.length:Int)/\l.length=(columnsOf S.schema t.toNat).length/\(tableAt S.session.now t.toNat).length<8/\S.session.next<160/\
 Vauowc.step S (.new t l)=match(l.zipIdx.find? λz=> !settable S.schema S.session.now t.toNat z.2 z.1)with
  |some z=>(S,[1,(z.2:Int)])
  |none=>Vauowc.become S {base:=S.session.base,now:=putRow S.session.now t.toNat {id:=S.session.next,vals:=l},next:=S.session.next+1} [0,(S.session.next:Int)]:=by
 unfold Cr at h;by_cases a:0<=t/\t<(S.schema.length:Int);rw[Wt a]at h;by_cases b:l.length=(columnsOf S.schema t.toNat).length;rw[Wt b]at h;by_cases z:8<=(tableAt S.session.now t.toNat).length;rw[Wt z]at h;cases h;rw[Wn z]at h;by_cases c:160<=S.session.next;rw[Wt c]at h;cases h;show⟨a.1,a.2,b,by lia,by lia,?_⟩;change onTable S t (λd=>newing S d l)=_;rw[gO,Wt a];unfold newing;rw[Wn (by simpa using b),Wn (show¬ROWS<=_ from z),Wn (show¬FIRSTNEW+NEWS<=_ from c)];rfl;rw[Wn b]at h;cases h;rw[Wn a]at h;cases h
def Out(cc:aC->ai)(H:Hp)(e d f:ai)(R:aI×ah Int)(Q:VK):Prop:=
 ∀r b c a,bS [e,d,f] H a->(b =d∨H b =none)->(c =f∨H c =none)->kQ cc a e b c R.1->a r=some (.lst (aG R.2))->Q (.ref r) a
theorem Out.same(o:Out cc H f b d (S,l) Q)(c:kQ cc H f b d S)(s:aD H a)(e:a r=some (.lst (aG l))):Q (.ref r) a :=
 o r b d a (aD.but s _) (.inl rfl) (.inl rfl) ⟨c.1,fu.same c.2 s⟩ e
theorem Out.new(o:Out cc H d c f (S,l) Q)(e:kQ cc H d c f S)(s:aD H a)(b:a r=none):Q (.ref r) (upd a r (.lst (aG l))):=
 o.same e (s.trans (aD.new b)) av
theorem fu.made{H:Hp}{a i b:ai}{S:aI}(h:fu cc H a i b S):∃dx sv lv nv,H a=some (.ins (cc "Session") dx (cX sv lv nv ((S.session.next:Int)-100) i b))/\
 ∀n:Nat,fu cc (upd H a (.ins (cc "Session") dx (cX sv lv nv ((n:Int)-100) i b))) a i b {schema:=S.schema,session:={base:=S.session.base,now:=S.session.now,next:=n},past:=S.past,undone:=S.undone}:=by
 obtain⟨sv,lv,nv,o6,CH,⟨dx,i⟩,a,b,c,d⟩:=h;show⟨dx,sv,lv,nv,i,λn=>⟨sv,lv,nv,o6,CH,⟨dx,av⟩,?_,?_,c,λH S=> ?_⟩⟩;rw[aF (bF a i (by simp))];show a;rw[aF (bF b i (by simp))];show b;have a:=(bS.mono bS.upd (by simp)).trans S;have i:=d H a;show⟨i.wm,i.base,i.now,i.past,i.L7⟩
inductive OX(cc:aC->ai)(a:ah V)(H:Hp)(Q:VK)(b:XK):Prop
 |mk (sa pa ua S t va l) (_:a=[.ref sa,.int t,.ref va]) (_:kQ cc H sa pa ua S) (_:H va=some (.lst (aG l))) (_:Out cc H sa pa ua (Vauowc.step S (.new t l)) Q):OX cc a H Q b
theorem yv(a:En P w K B base CT cc I):fc P w K B base CT "make_object" 3 ["session","table","values"] (OX cc):=by
 show cg a a.fs.wV ["session","table","values","refusal","index","column","number"] λf s A J G E O Q z g h d T=> ?_;obtain⟨c,y,C,S,t,D,l,rfl,e,u,k⟩:=h
 show⟨_,(aK (aP 3 d.nd (aR (Ct a) g aM (aj (pw 0) (aj (pw 1) (aj (pw 2) ao)))))
  (aK (bz (aQ fK (pw 3) aO (a_ _))
  (au (aJ (bI (aj (pw 3) ao))))
  aN)
  (aK (cS WT rfl (g4 rfl T.cB (aj (bH aY (aW T.aH T.bq (pv 0)) (pv 1)) ao)) (gf (n:=2) rfl (bU (bh 4 d.nd) (bU (bh 5 d.nd) eO)))
  (au (bz (gM (dg (aR (lY a) g aM (aj (pw 5) (aj (aW T.aH T.aZ (pw 0)) (aj (bH aY (pw 2) (pw 4)) ao))))))
  (au (aJ (bI (aj aO (aj (pw 4) ao)))))
  aN)))
  (aK (aP 6 d.nd (ef gZ (bA rfl T.kC) (aW T.aH T.cJ (pw 0))))
  (aK (bP (di T.aH (eX a) g aM (pw 0) (aj (aR (pJ a) g aM (aj (aW T.aH T.aZ (pw 0)) (aj (pw 1) (aj (pw 6) (aj (pw 2) ao))))) ao)))
  (aK (Jq T.aH T.cJ (pw 0) aO Pp)
  (au (aJ (bI (aj aO (aj (pw 6) ao))))))))))),?_⟩
 have b:=e.1;obtain⟨J,z,Q,a,A,s,x⟩:=e.2.read;left;have z:(aG l).length=l.length:=Wl _;show⟨c,y,C,S,t,D,_,rfl,e,bG.of u,?_⟩;left;by_cases h:Cr S t l.length=0;show .inl ⟨by rw[h],?_⟩;right;obtain⟨z,J,r,F,A,a⟩:=N1 h;obtain⟨n,rfl⟩:=WO z;rw[WQ]at r F a;rw[a]at k;obtain⟨A,O,a,d,p,rfl,L,J,H,f,v⟩:=pL x.wm (t:=n) (by lia);have G:columnsOf S.schema n=p.columns:=fH H;have z:=aT v;have z:p.columns.length=l.length:=by rw[r,G]
 walk_at "l";show⟨.ref c,rfl,c,_,.ref A,rfl,s,rfl,.int n,rfl,A,O,n,.ref a,rfl,rfl,bG.of L,bJ J,a,d,rfl,bG.of f,gv (xs:=d) (λi o q =>NH λ(j m:az V)=>OD (o=[some (.ref c),some (.int n),some (.ref D),some (.int (Cr S (n:Int) l.length)),j,m,none]) (aD E q) (l.zipIdx.find? (λz=> !settable S.schema S.session.now n z.2 z.1)=(l.zipIdx.drop i).find? (λz=> !settable S.schema S.session.now n z.2 z.1))) ⟨none,none,rfl,aD.refl _,rfl⟩ ?_ ?_ ?_⟩;rintro i o q J ⟨j,m,rfl,d,_⟩;show bG.of (d _ _ f);rintro i f T o z E O ⟨j,m,rfl,d,a⟩ A M;right;obtain⟨f,z,L,rfl,N⟩:=bB v O;have J:=(Wo.mp z).1;have T:=d.trans A;obtain⟨v,J⟩:∃v,l[i]? =some v:=⟨_,Wr (by lia)⟩;walk_at "u";have O:l.zipIdx[i]? =some (v,i):=by rw[WX,J];simp
 rw[jZ O,XO]at a;have O:settable S.schema S.session.now n i v=j5 S.session.now f v:=sC (by rw[G];show z) v;have G:kQ cc E c y C S:=⟨b,fu.same e.2 T⟩;walk_at "v";show g2 (dO.of M) ?_;left
 have G:iC S.session.now f.kind:=by
  have:=b.so.UE p (Wq H) f (Wq z);unfold iC;cases z:f.kind with
  |number=>trivial
  |ref M H p=>rw[z]at this;rw[b.fT.now.w.fit.len];show this
 show⟨_,aD.ob T s,_,rfl,_,bG.of (T _ _ u),_,bJ (by rw[Ws,J];rfl),L,_,v,f,S.session.now,rfl,aD.ob T N,cV.same x.now T,G,?_⟩;have a:=a;rw[O]at a;cases z:j5 S.session.now f v with
 |false=>rw[z]at a;have a:=a;rw[a]at k;show .inl ⟨rfl,by rw[Wx];lia,λp f=>Out.new (l:=[1,(i:Int)]) k e T f⟩
 |true=>rw[z]at a;show .inr ⟨rfl,T,a⟩
 rintro o q ⟨j,m,rfl,d,a⟩;rw[a,Xk (by rw[Xr];lia)]at k;have k:=k;have G:∀(T:Nat) v,l[T]? =some v->settable S.schema S.session.now n T v=true:=by rw[Xk (by rw[Xr];lia)]at a;have a:=a;intro T v q;have:=Yq.mp a (v,T) (Xx.mpr q);simpa using this
 left;obtain⟨a,z⟩:=aD.ob d s;have s:100+((S.session.next:Int)-100)=(S.session.next:Int):=by lia
 left;show⟨_,⟨a,z⟩,_,rfl,_,rfl,?_⟩;left;show⟨a,_,z,rfl,_,⟨a,z⟩,_,rfl,?_⟩;rw[s];have a:=b.fT.now.w.fit.len;show⟨Q,n,S.session.next,D,l,S.session.now,rfl,cV.same x.now d,by rw[a];show b.so.few,by lia,λs g=> ?_,.inl (bG.of (d _ _ u)),λJ E A z=> ?_⟩;obtain⟨t,a⟩:=XZ.mp g;show b.fT.now.w.fit.few t s a;have j:=d.trans A;show⟨c,y,C,J,S,_,rfl,fu.same e.2 j,z,by have:=b.few;lia,λa d o E x L A=> ?_⟩;right;obtain⟨g,m,i,z,s,J⟩:=fu.made A;have A:cA (Str.ofString "made") (V.int ((S.session.next:Int)-100+1)) (cX m i z ((S.session.next:Int)-100) a d)=cX m i z (((S.session.next+1:Nat):Int)-100) a d :=by rw[show((S.session.next+1:Nat):Int)-100=(S.session.next:Int)-100+1 by lia];unfold cX;walk_at "p"
 left;show⟨g,_,s,_,rfl,_,rfl,g,_,s,j0,?_⟩;rw[A];have A:=J (S.session.next+1);have u:bS [c] o (upd o c (HO.ins (cc "Session") g (cX m i z (((S.session.next+1:Nat):Int)-100) a d))):=bS.upd;generalize upd o c (HO.ins (cc "Session") g (cX m i z (((S.session.next+1:Nat):Int)-100) a d))=s at A u|-;left;show⟨by rw[Wx];lia,λp f=> ?_⟩;have z:aD s (upd s p (.lst [V.int 0,V.int (S.session.next:Int)])):=aD.new f;have J:=b.become (b.fT.put (t:=n) (r:={id:=S.session.next,vals:=l}) (n:=S.session.next+1) ⟨by have:=b.fT.lo;change 1<=S.session.next;lia,r,λT v q s=>by have:=G T v q;unfold settable at this;rw[s]at this;show this⟩ (.inl F) (aaX _) (by lia) (.inr ⟨b.fT.lo,aao _⟩));show k p a d _ ((((aD.but j [c]).trans E).trans u).trans (aD.but z _)|>.mono (by simp)) (.inr (j.free x)) (.inr (j.free L)) ⟨J,fu.same A z⟩ av;show .inr ⟨by simpa using h,?_⟩;rw[Qv h]at k;show⟨by rw[Wx];lia,λp f=>k.new e (aD.refl _) f⟩
theorem EF{t c:Nat}(h:refersInto s t c=none):((columnsOf s t)[c]?).bind clearsTo=none:=by
 unfold refersInto at h;cases e:(columnsOf s t)[c]? with
 |none=>rfl
 |some c=>
  rw[e]at h;change clearsTo c=none;unfold clearsTo;cases e:c.kind with
  |number lo s=>rfl
  |ref u t s=>exfalso;have h:(match c.kind with| .ref u _ _=>some u|_=>none)=none:=h;rw[e]at h;cases h
theorem Cv{t:Nat}(g:dZ s t r):dZ s t (clearedRow s L t r):=by
 show⟨g.pos,?_,λc v h a=> ?_⟩;unfold clearedRow;rw[Wl,Xr];show g.rD;unfold clearedRow at h;rw[Ws,WX]at h;cases e:r.vals[c]? with
 |none=>rw[e]at h;cases h
 |some u=>rw[e]at h;have h:some (match((columnsOf s t)[0+c]?).bind clearsTo with|some w=>if(u !=0&&L.contains (w,u.toNat))=true then(0:Int)else u|none=>u)=some v:=h;rw[XS,EF a]at h;have h:some u=some v:=h;rw[<- W5 h];show g.num c u e a
theorem vN{t:Nat}(h:(removed s b L)[t]? =some e):∃a,b[t]? =some a/\e=(a.filter λr=> !L.contains (t,r.id)).map (clearedRow s L t):=by
 unfold removed at h;rw[Ws,WX]at h;cases e:b[t]? with
 |none=>rw[e]at h;cases h
 |some a=>rw[e]at h;have h:=h;rw[XS]at h;show⟨a,rfl,(W5 h).symm⟩
theorem fS.removed(ok:fS s b x) L:fS s b {base:=x.base,now:=VauowBase.removed s x.now L,next:=x.next}:=by have b:∀(t:Nat) r,(clearedRow s L t r).id=r.id:=λ_ _=>rfl;show⟨ok.base,dX.mk' (by unfold VauowBase.removed;rw[Wl,Xr];show ok.now.w.fit.len) λt b e=> ?_,ok.lo,ok.hi,λt b e r c=> ?_⟩;obtain⟨b,a,rfl⟩:=vN e;show⟨?_,?_,λr c=> ?_⟩;rw[Wl];show Xi (X3 _ _) (ok.now.w.fit.few t b a);have:=(ok.now.w.ri t b a).filter (λr=> !L.contains (t,r.id));unfold b4;rw[W9];show this;obtain⟨q,r,rfl⟩:=Wy.mp c;show Cv (ok.now.row a (W_.mp r).1);obtain⟨b,a,rfl⟩:=vN e;obtain⟨q,r,rfl⟩:=Wy.mp c;show ok.ids t b a q (W_.mp r).1
theorem Mi{S:aI}(g:pK S){n:Nat}{b:Table}(f:S.schema[n]? =some b){a:Column}(d:a∈b.columns){c:Db}(e:c.length=S.schema.length):iC c a.kind:=by
 have:=g.so.UE b (Wq f) a d;unfold iC;cases b:a.kind with
 |number=>trivial
 |ref u c a=>rw[b]at this;rw[e];show this
theorem vO(g:dX s b):∀a∈b,a.length<=8:=λa c=>by obtain⟨t,b⟩:=XZ.mp c;show g.w.fit.few t a b
theorem lC(h:bK a i=some r):r∈a:=by unfold bK at h;split at h;cases h;show Xf h
theorem Out.change(o:Out cc H c g i (Vauowc.become S {base:=S.session.base,now:=e,next:=S.session.next} l) Q)(f:kQ cc H c g i S)(s:aD H d)(k:cV d h e)
 (ok:fS S.schema S.session.base {base:=S.session.base,now:=e,next:=S.session.next}) (kk:∀a,bS [c] d a->(∀p b,aD a b->b p=some (.lst (aG l))->Q (.ref p) b)->j .non a):vL cc [.ref c,h] d j E:=by
 show⟨c,g,i,h,S,e,rfl,fu.same f.2 s,k,by have:=f.1.few;lia,λn r a d Q m q=>kk a d λp b H j=> ?_⟩;show o p n r b ((((aD.but s [c]).trans d).trans (aD.but H _)).mono (by simp)) (.inr (s.free Q)) (.inr (s.free m)) ⟨f.1.become ok,fu.same q H⟩ j
theorem dZ.set{t:Nat}(g:dZ s t r)(e:refersInto s t c=none->isValue v=true):dZ s t {id:=r.id,vals:=r.vals.set c v}:=by show⟨g.pos,by change(r.vals.set c v).length=_;rw[XM];show g.rD,λa f h d=> ?_⟩;have h:=h;by_cases b:c=a;subst b;by_cases s:c<r.vals.length;rw[Xe s]at h;rw[<- W5 h];show e d;rw[Xh (by rw[XM];lia)]at h;cases h;rw[Xn b]at h;show g.num a f h d
inductive OY(cc:aC->ai)(a:ah V)(H:Hp)(Q:VK)(b:XK):Prop
 |mk (sa pa ua S t i c v) (_:a=[.ref sa,.int t,.int i,.int c,.int v]) (_:kQ cc H sa pa ua S) (_:Out cc H sa pa ua (Vauowc.step S (.set t i c v)) Q):OY cc a H Q b
theorem EG(d:En P w K B base CT cc I):fc P w K B base CT "set_value" 3 ["session","table","number","index","value"] (OY cc):=by
 show cg d d.fs.C4 ["session","table","number","index","value","refusal","row"] λyi yg ya ym yq M yx Q yb i xA L T=> ?_;have xW:=d8 i;obtain⟨C,A,D,S,t,G,c,v,rfl,e,k⟩:=xA
 show⟨_,(aK (aP 5 L.nd (aR (fm d) i aM (aj (pw 0) (aj (pw 1) (aj (pw 2) ao)))))
  (aK (bz (aQ cM (pw 5) aO (a_ _))
  (au (aP 5 L.nd (aR (jq d) i aM (aj (pw 0) (aj (pw 1) (aj (pw 3) ao))))))
  aN)
  (aK (bz (aQ fK (pw 5) aO (a_ _))
  (au (aJ (bI (aj (pw 5) ao))))
  aN)
  (aK (bz (gM (dg (aR (lY d) i aM (aj (bH aY (bH aY (aW T.aH T.bq (pw 0)) (pw 1)) (pw 3)) (aj (aW T.aH T.aZ (pw 0)) (aj (pw 4) ao))))))
  (au (aJ (bI (aj aO ao))))
  aN)
  (aK (aP 6 L.nd (aR (jE d) i aM (aj (er xW (bH aY (aW T.aH T.aZ (pw 0)) (pw 1)) (pw 2)) (aj (pw 3) (aj (pw 4) ao)))))
  (aK (bP (di T.aH (eX d) i aM (pw 0) (aj (aR (pJ d) i aM (aj (aW T.aH T.aZ (pw 0)) (aj (pw 1) (aj (pw 2) (aj (pw 6) ao))))) ao)))
  (au (aJ (bI (aj aO ao)))))))))),?_⟩
 have a:=e.1;obtain⟨yr,yj,yk,yo,yw,x,y⟩:=e.2.read;have k:Out cc M C A D (Vauowc.onRow S t G λf E _=>onColumn S f c λk=>if settable S.schema S.session.now f k v then Vauowc.become S (withNow S (Vauowc.setField S.session.now f E k v)) [0]else(S,[1])) Q:=k;left;show⟨C,A,D,S,t,G,rfl,e,?_⟩;left;by_cases o:j3 S t G=0
 . rw[Wt (by rw[o])];left;show⟨C,A,D,S,t,c,rfl,e,?_⟩;left;obtain⟨r,q,X,xU,xr⟩:=gU (λf E _=>onColumn S f c λk=>if settable S.schema S.session.now f k v then Vauowc.become S (withNow S (Vauowc.setField S.session.now f E k v)) [0]else(S,[1])) o;rw[xr]at k;by_cases p:lA S t c=0
   . rw[jF _ p]at k;show .inl ⟨by rw[p],?_⟩;right;obtain⟨_,_,xC,R⟩:=gS p;obtain⟨n,rfl⟩:=WO X;obtain⟨b,rfl⟩:=WO xC;obtain⟨xJ,u⟩:=iI q;obtain⟨m,rfl⟩:=WO xJ;simp only[WQ]at k q u R;obtain⟨x8,yu,xj,yh,xh,rfl,xS,xB,F,xE,xF⟩:=pL y.wm (t:=n) (by lia);have s:columnsOf S.schema n=xh.columns:=fH F;rw[s]at R;obtain⟨xY,N,xO,V,xP⟩:=G7 xF (c:=b) (by lia);have xT:settable S.schema S.session.now n b v=j5 S.session.now N v:=sC (by rw[s];show V) v;have U:=a.fT.now.w.fit.len;obtain⟨Z,yl,xq,yp,H,rfl,xM,xN,j,xG,xV,xX,xg⟩:=j4 y.now (t:=n) (by lia);rw[bT j]at q;obtain⟨xZ,xu,xQ⟩:=(bZ xV xX xg (m:Int)).2 r q;have l:=lC q;left;show⟨_,x,_,rfl,x8,rfl,_,bG.of xS,_,bJ xB,xj,rfl,_,bG.of xE,_,bJ xO,_,x,_,rfl,xY,_,v,N,S.session.now,rfl,xP,y.now,Mi a F (Wq V) U,?_⟩;rw[<- xT];by_cases g:settable S.schema S.session.now n b v=true
     . rw[Wt g]at k;show .inr ⟨by rw[g],?_⟩;left;show⟨_,x,_,rfl,Z,rfl,_,bG.of xM,_,bJ xN,xq,rfl,_,xu▸dJ.k (k:=Sum.inl (m:Int)) xG,xZ,b,v,r.vals,rfl,xQ,?_,?_,λx9 yc J Y=> ?_⟩;rw[a.fT.now.w.fit.rD n H j r l,s]
       lia
       rw[a.fT.now.w.fit.rD n H j r l,s];show a.so.cols xh (Wq F);obtain⟨O,W⟩:=aD.ob J x;left;show⟨O,_,W,rfl,_,⟨O,W⟩,_,rfl,.ref Z,n,m,x9,r.vals.set b v,S.session.now,rfl,cV.same y.now J,by rw[U];show a.so.few,by lia,vO a.fT.now,.inr ⟨dO.of Y,Y⟩,λyt yd x6 xH=> ?_⟩;have xx:Vauowc.setField S.session.now n m b v=putRow S.session.now n {id:=m,vals:=r.vals.set b v}:=(by unfold Vauowc.setField;have:rowAt S.session.now n m=some r:=(by unfold rowAt;rw[bT j,u];show gu xg l);rw[this,u]);have k:Out cc M C A D (Vauowc.become S {base:=S.session.base,now:=Vauowc.setField S.session.now n m b v,next:=S.session.next} [0]) Q:=k;rw[xx]at k;have ok:fS S.schema S.session.base {base:=S.session.base,now:=putRow S.session.now n {id:=m,vals:=r.vals.set b v},next:=S.session.next}:=(by have xR:=dZ.set (c:=b) (v:=v) (a.fT.now.row j l) λxK=>(by unfold settable at g;rw[xK]at g;show g);rw[u];show a.fT.put xR (.inr ⟨r,by rw[bT j];show l,rfl⟩) (Wu _) a.fT.hi (a.fT.ids n H j r l));show Out.change k e (J.trans x6) xH ok λye yf kk=> ?_;left;show⟨by rw[Wx];lia,λz h=>kk z _ (aD.new h) av⟩
     rw[Wn g]at k;show .inl ⟨by rw[Xa.mpr g],by rw[Wx];lia,λz h=>k.new e (aD.refl _) h⟩
   rw[nO _ ⟨X,xU⟩ p]at k;show .inr ⟨by simpa using p,by rw[Wx];lia,λz h=>k.new e (aD.refl _) h⟩
 rw[lB _ o]at k;rw[Wn (by simpa using o)];left;left;show .inr ⟨by simpa using o,by rw[Wx];lia,λz h=>k.new e (aD.refl _) h⟩
inductive EH(cc:aC->ai)(a:ah V)(H:Hp)(Q:VK)(b:XK):Prop
 |mk (sa pa ua S t i) (_:a=[.ref sa,.int t,.int i]) (_:kQ cc H sa pa ua S) (_:Out cc H sa pa ua (Vauowc.step S (.remove t i)) Q):EH cc a H Q b
theorem s7(m:En P w K B base CT cc I):fc P w K B base CT "remove_object" 5 ["session","table","number"] (EH cc):=by
 show cg m m.fs.sP ["session","table","number","refusal","links","going","link"] λf c A i s H r Q E n h b T=> ?_;obtain⟨s,l,t,S,o,i,rfl,a,k⟩:=h
 show⟨_,(aK (aP 3 b.nd (aR (fm m) n aM (aj (pw 0) (aj (pw 1) (aj (pw 2) ao)))))
  (aK (bz (aQ fK (pw 3) aO (a_ _))
  (au (aJ (bI (aj (pw 3) ao))))
  aN)
  (aK (aP 4 b.nd (aR (Ew m) n aM (aj (aW T.aH T.bq (pw 0)) (aj (aW T.aH T.aZ (pw 0)) ao))))
  (aK (aP 5 b.nd (aR (Cm m) n aM (aj (pw 4) (aj (iN (aj (pw 1) (aj (pw 2) ao))) ao))))
  (aK (aP 6 b.nd (aR (rF m) n aM (aj (pw 4) (aj (pw 5) ao))))
  (aK (bz (aQ Hx (pw 6) iM (a_ _))
  (au (aJ (bI (aj aO (aj (aW T.cK T.fX (pw 6)) (aj (aW T.cK T.eG (pw 6)) (aj (aW T.cK T.fY (pw 6)) ao)))))))
  aN)
  (aK (bP (di T.aH (eX m) n aM (pw 0) (aj (aR (JK m) n aM (aj (aW T.aH T.aZ (pw 0)) (aj (pw 4) (aj (pw 5) ao)))) ao)))
  (au (aJ (bI (aj aO (aj (bw Aj rfl T.cO Xy (aj (pw 5) ao)) ao)))))))))))),?_⟩
 have T:=a.1;obtain⟨q,c,D,r,E,v,y⟩:=a.2.read;left;show⟨s,l,t,S,o,i,rfl,a,?_⟩;left
 have k:Out cc H s l t (Vauowc.onRow S o i λe c _=>(match removeRow S.schema S.session.now e c with
  | .error f=>(S,faultRow f)
  | .ok d=>Vauowc.become S (withNow S d) [0,(((allRows S.session.now).length-(allRows d).length:Nat):Int)])) Q:=k
 by_cases g:j3 S o i=0
 . show .inl ⟨by rw[g],?_⟩;right
   obtain⟨o,b,r,E,i⟩:=gU (λe c _=>(match removeRow S.schema S.session.now e c with
    | .error f=>(S,faultRow f)
    | .ok d=>Vauowc.become S (withNow S d) [0,(((allRows S.session.now).length-(allRows d).length:Nat):Int)])) g
   rw[i]at k;obtain⟨n,rfl⟩:=WO r;obtain⟨c,i⟩:=iI b;obtain⟨m,rfl⟩:=WO c;simp only[WQ]at k b i;have i:=T.fT.now.w;have A:rowAt S.session.now n m=some o:=(by unfold bK at b;rw[Wn (by lia),WQ]at b;show b);have sz:∀{j:Nat},j<=10->j<=sizeLine:=λ{j} h=>(by rw[Wx];lia);left;show⟨_,v,_,rfl,_,v,_,rfl,q,D,S.schema,S.session.now,rfl,y.wm,y.now,T.so,i.fit,λp z c F b u C=> ?_⟩;left;show⟨sz (by lia),λq r=> ?_⟩;have o:aD c (upd c q (.tup [.int (n:Int),.int (m:Int)])):=aD.new r;have r:upd c q (.tup [.int (n:Int),.int (m:Int)]) q=some (.tup [.int (n:Int),.int (m:Int)]):=av;generalize upd c q (.tup [.int (n:Int),.int (m:Int)])=E at o r|-;show⟨p,q,z,cR S.schema S.session.now,((n:Int),(m:Int)),rfl,o _ _ b,bf (λ_ _ c=>jm.same c o) u,C,r,λd G L J h E x=> ?_⟩;have r:=o.trans J;have o:=F.trans r;have I:=Qu i A E x;have C:=bf (λ_ _ c=>jm.same c r) u;have c:=NW I;left;show⟨p,d,z,cR S.schema S.session.now,G,rfl,r _ _ b,C,h,λu=> ?_,λE q J F=> ?_⟩
   . left;rw[u]at c;have u:removeRow S.schema S.session.now n m= .ok (VauowBase.removed S.schema S.session.now (goneWith S.schema S.session.now n m)):=(by unfold removeRow;simp only;rw[c];rfl);rw[u]at k;have k:Out cc H s l t (Vauowc.become S {base:=S.session.base,now:=VauowBase.removed S.schema S.session.now (goneWith S.schema S.session.now n m),next:=S.session.next} [0,(((allRows S.session.now).length-(allRows (VauowBase.removed S.schema S.session.now (goneWith S.schema S.session.now n m))).length:Nat):Int)]) Q:=k;rw[G5 I]at k;obtain⟨A,x⟩:=aD.ob o v;left;show⟨A,_,x,rfl,_,⟨A,x⟩,_,rfl,D,p,d,z,cR S.schema S.session.now,G,S.session.now,rfl,cV.same y.now o,by rw[i.fit.len];show T.so.few,vO T.fT.now,r _ _ b,C,L4 T.so i,h,λM L E v=> ?_⟩;rw[<- G4 I]at v;show Out.change k a (o.trans E) v (T.fT.removed _) λi r kk=> ?_;left;show⟨_,r _ _ (b6 (bF h x (by simp))) (E _ _ h),sz (by lia),λi T=> ?_⟩;rw[Wl];show kk i _ (aD.new T) av
   rw[J]at c;left;have u:removeRow S.schema S.session.now n m= .error (Cq q):=(by unfold removeRow;simp only;rw[c];rfl);rw[u]at k;have k:Out cc H s l t (S,[1,(q.t:Int),(q.n:Int),(q.c:Int)]) Q:=k;right;obtain⟨e,E,r,rfl,c,_,_⟩:=F;left;show⟨_,c,_,rfl,_,c,_,rfl,_,c,_,rfl,sz (by lia),λi T=>k.new a o T⟩
 rw[lB _ g]at k;show .inr ⟨by simpa using g,by rw[Wx];lia,λp b=>k.new a (aD.refl _) b⟩
noncomputable def jG (s:Schema) (d:Db) (t id:Nat) (z:Int×Nat):Int:=match refersInto s t z.2 with
 |some u=>if z.1 !=0&& !((u==t&&z.1==(id:Int))||(rowAt d u z.1.toNat).isSome)then(0:Int)else z.1
 |none=>z.1
theorem rJ s d t r:(backRow s d t r).vals=r.vals.zipIdx.map (jG s d t r.id):=rfl
theorem N2 s d t r:(backRow s d t r).id=r.id:=rfl
theorem EI{t id c:Nat}(h:refersInto s t c=none):jG s d t id (v,c)=v:=by unfold jG;simp only[h]
theorem Mj(w:jo s d){t id c u:Nat}(h:refersInto s t c=some u):jG s d t id (v,c)=if((u=t/\v=(id:Int))∨v=0∨(bK (tableAt d u) v).isSome=true)then v else 0:=by
 unfold jG;simp only[h]
 have e:v≠0->(rowAt d u v.toNat).isSome=(bK (tableAt d u) v).isSome:=by
  intro b;unfold bK rowAt;by_cases a:v<0;rw[Wt a]
  have:findRow (tableAt d u) v.toNat=none:=by
   rw[show v.toNat=0 by lia];unfold findRow;rw[Yq];intro q g;obtain⟨j,f,i⟩:=gT g;have:=w.pos u j f q i;simp
   lia
  rw[this];rw[Wn a]
 by_cases b:v=0;subst b;simp;rw[e b];have a:(v !=0)=true:=by simpa using b
 rw[a,ZU];by_cases a:(u=t/\v=(id:Int))∨v=0∨(bK (tableAt d u) v).isSome=true;rw[Wt a,Wn];rcases a with⟨e,g⟩|h|h
 simp[e,g];show absurd h b;simp[h];rw[Wn a,Wt];simp only[Zc,aaw,Zz];show⟨?_,?_⟩;by_cases e:u=t;apply Or.inr;have:v≠(id:Int):=λz=>a (.inl ⟨e,z⟩);simpa using this;apply Or.inl;simpa using e;cases f:(bK (tableAt d u) v).isSome with
 |false=>rfl
 |true=>show absurd (.inr (.inr f)) a
noncomputable def EJ (S:aI) (t:Nat) (q:aB) (i:Nat):ah V:=aG ((q.vals.zipIdx.take i).map (jG S.schema S.session.now t q.id))
inductive vP(cc:aC->ai)(c:ah V)(H:Hp)(Q:VK)(d:XK):Prop
 |mk (b e f:ai) (S:aI) (t m:Nat) (q:aB) (_:c=[.ref b,.int t,.int m]) (_:kQ cc H b e f S) (_:t<S.schema.length) (_:rowAt S.session.base t m=some q) (_:∀p a,aD H a->H p=none->a p=some (.lst (aG (backRow S.schema S.session.now t q).vals))->Q (.ref p) a):vP cc c H Q d
theorem EK(a:En P w K B base CT cc I):fc P w K B base CT "as_loaded" 3 ["session","table","number"] (vP cc):=by
 show cg a a.fs.C5 ["session","table","number","values","index","column","value","to_itself","kept"] λf x A c s H n Q E d h z T=> ?_;have g:=d8 d;obtain⟨u,J,A,S,t,m,q,rfl,c,n,x,k⟩:=h
 show⟨_,(aK (aP 3 z.nd (bI ao))
  (aK (cS WT rfl (g4 rfl T.cB (aj (bH aY (aW T.aH T.bq (pv 0)) (pv 1)) ao)) (gf (n:=2) rfl (bU (bh 4 z.nd) (bU (bh 5 z.nd) eO)))
  (aK (aP 6 z.nd (bH gh (er g (bH aY (aW T.aH T.bV (pw 0)) (pw 1)) (pw 2)) (pw 4)))
  (aK (aP 7 z.nd (Ka (jx cM (aW T.bL T.bR (pw 5)) (pw 1) (a_ _)) (ux (jx cM (pw 6) (pw 2) (a_ _)))))
  (aK (aP 8 z.nd (Kc (pw 7) (ux (aR (lY a) d aM (aj (pw 5) (aj (aW T.aH T.aZ (pw 0)) (aj (pw 6) ao)))))))
  (au (bP (fB W8 Xl Xq dh (pw 3) (aj (jP (dg (pw 8)) (pw 6) aO) ao))))))))
  (au (aJ (pw 3))))),?_⟩
 right;have a:=c.1;obtain⟨J,z,d,n,h,o,r⟩:=c.2.read;have Y:q.id=m:=by simpa using XQ x
 have W:=a.fT.now.w;obtain⟨xC,n,ld,z,Q,rfl,xq,xr,M,xu,d,c,h⟩:=j4 r.base (t:=t) (by rw[a.base.w.fit.len];lia);have z:bK Q (m:Int)=some q:=by unfold bK;rw[Wn (by lia),WQ];unfold rowAt at x;rw[bT M]at x;show x
 have Z:=lC z;obtain⟨xE,xg,xB⟩:=(bZ d c h (m:Int)).2 q z;obtain⟨l,O,x,c,R,rfl,J,G,d,e,n⟩:=pL r.wm (t:=t) (by lia);have U:=fH d;have z:=aT n;have z:=a.base.w.fit.rD t Q M q Z;rw[U]at z;have z:=a.so.cols R (Wq d);rw[rJ]at k;left;intro p N;have z:aD H (upd H p (.lst [])):=aD.new N;have h:upd H p (.lst []) p=some (.lst []):=av;generalize upd H p (.lst [])=A at z h|-;walk_at "l";show⟨.ref u,rfl,u,_,.ref l,rfl,aD.ob z o,rfl,.int t,rfl,l,O,t,.ref x,rfl,rfl,bG.of (z _ _ J),bJ G,x,c,rfl,bG.of (z _ _ e),gv (xs:=c) (λi E b =>T5 λ(y A C D j:az V)=>QO (E=[some (.ref u),some (.int t),some (.int m),some (.ref p),y,A,C,D,j]) (aD H b) (b p=some (.lst (EJ S t q i))) (i<=R.columns.length)) ⟨none,none,none,none,none,rfl,z,h,Xb _⟩ ?_ ?_ ?_⟩;rintro i E b L ⟨y,A,C,D,j,rfl,h,_⟩;show bG.of (h _ _ e)
 . rintro i x T E c l O ⟨y,A,C,D,j,rfl,h,e,xx⟩ z xh;right;obtain⟨c,J,G,rfl,xj⟩:=bB n O;have L:=(Wo.mp J).1;have T:=h.trans z;obtain⟨v,O⟩:∃v,q.vals[i]? =some v:=⟨_,Wr (by lia)⟩;have X:q.vals.zipIdx[i]? =some (v,i):=(by rw[WX,O];simp);have n:q.vals.zipIdx.take (i+1)=q.vals.zipIdx.take i++[(v,i)]:=by rw[W7,X];rfl
   have X:(EJ S t q i).length<=4:=by
    unfold EJ;rw[Wl,Wl,Xo]
    lia
   have xA:EJ S t q (i+1)=EJ S t q i++[.int (jG S.schema S.session.now t q.id (v,i))]:=(by unfold EJ;rw[n];simp);have X:=z _ _ e;have n:∀z :Int,jG S.schema S.session.now t q.id (v,i)=z->(∃xs,bG K l p xs)/\∃x,l p=some (.lst x)/\x.length<sizeLine/\aD H (upd l p (.lst (x++[.int z])))/\x++[V.int z]=EJ S t q (i+1)/\i+1<=R.columns.length:=(by rintro z rfl;show⟨⟨_,bG.of X⟩,_,X,by rw[Wx];lia,λz H x=>by rw[aF (aA x N)];show T _ _ x,xA.symm,L⟩);walk_at "v";show g2 (dO.of xh) ?_;left;show⟨_,aD.ob T o,_,rfl,xC,rfl,_,bG.of (T _ _ xq),_,bJ xr,ld,rfl,_,xg▸dJ.k (k:=Sum.inl (m:Int)) (T _ _ xu),xE,rfl,_,dO.of (T _ _ xB),_,bJ (by rw[Ws,O];rfl),?_⟩;right;have H:=aD.ob T xj;have R:=Mi a d (Wq J) W.fit.len;have d:=qy (s:=S.schema) (t:=t) (c:=i) (by rw[U];show J);cases z:c.kind with
   |number lo L=>rw[z]at d;have J:=a.base.num t Q M q Z i v O d;rw[lU z]at H;left;show⟨_,H,.non,rfl,rfl,?_⟩;rw[Wn (by simp)];left;show⟨_,aD.ob T o,_,rfl,G,_,v,c,S.session.now,rfl,by rw[lU z];show H,cV.same r.now T,R,?_⟩;have x:j5 S.session.now c v=true:=(by unfold j5;rw[z];show J);rw[x];have f:=n v (EI d);left;show f
   |ref x J a=>
    rw[z]at d;have a:=Mj (id:=q.id) (v:=v) W d;rw[gJ z]at H;left;have q:j5 S.session.now c v=(v==0||(bK (tableAt S.session.now x) v).isSome):=by unfold j5;rw[z]
    have two:(¬(x=t/\v=(m:Int)))->k9 [some (.ref u),some (.int t),some (.int m),some (.ref p),some (.int i),some (.ref G),some (.int v),some (.bl false),j] l:=by
     intro d;left;show⟨_,aD.ob T o,_,rfl,G,_,v,c,S.session.now,rfl,by rw[gJ z];show H,cV.same r.now T,R,?_⟩;rw[q];rw[<- Y]at d;cases T:(v==0||(bK (tableAt S.session.now x) v).isSome)with
     |false=>simp only[aaw,Xs,ne_eq]at T;have f:=n 0 (by rw[a,Wn];rintro(z|z|z);show d z;show T.1 z;rw[T.2]at z;cases z);left;show f
     |true=>simp only[ZV,XD]at T;have f:=n v (by rw[a,Wt (.inr T)]);left;show f
    show⟨_,H,_,rfl,rfl,?_⟩;by_cases g:x=t
    . rw[Wt (by rw[g])];by_cases x:v=(m:Int)
      . have f:=n v (by rw[a,Wt (.inl ⟨g,by rw[Y];show x⟩)]);rw[WK x]
        iterate 2 left
        show f
      rw[WC x];show two λz=>x z.2
    rw[Wn (by simp;lia)];show two λz=>g z.1
 rintro E b ⟨y,A,C,D,j,rfl,h,e,xx⟩;left;unfold EJ at e;rw[W2 (by rw[Xr];lia)]at e;show k p b h N e
theorem JQ(c:pK S){t m:Nat}(a:rowAt S.session.base t m=some q):dZ S.schema t (backRow S.schema S.session.now t q):=by
 obtain⟨g,e,b⟩:=gT (Xf a);have g:=c.base.row e b;show⟨g.pos,by rw[rJ,Wl,Xr];show g.rD,λc v h b=> ?_⟩;rw[rJ,Ws,WX]at h;cases a:q.vals[c]? with
 |none=>rw[a]at h;cases h
 |some u=>rw[a]at h;have h:some (jG S.schema S.session.now t q.id (u,0+c))=some v:=h;rw[XS,EI b]at h;rw[<- W5 h];show g.num c u a b
inductive sD(cc:aC->ai)(d:ah V)(H:Hp)(Q:VK)(e:XK):Prop
 |mk (a b c:ai) (S:aI) (t m:Nat) (q:aB) (_:d=[.ref a,.int t,.int m]) (_:kQ cc H a b c S) (_:t<S.schema.length) (_:rowAt S.session.base t m=some q) (_:((tableAt S.session.now t).length<8∨∃r∈tableAt S.session.now t,r.id=m)) (_:Out cc H a b c (Vauowc.become S (withNow S (putRow S.session.now t (backRow S.schema S.session.now t q))) (0::(backRow S.schema S.session.now t q).vals)) Q):sD cc d H Q e
theorem qz(a:En P w K B base CT cc I):fc P w K B base CT "load_again" 4 ["session","table","number"] (sD cc):=by
 show cg a a.fs.Br ["session","table","number","values"] λl q A n s H c Q E d b f T=> ?_;obtain⟨y,x,z,S,t,m,q,rfl,g,l,c,h,k⟩:=b
 show⟨_,(aE (aP 3 f.nd (aR (EK a) d aM (aj (pw 0) (aj (pw 1) (aj (pw 2) ao)))))
  (aE (bP (di T.aH (eX a) d aM (pw 0) (aj (aR (pJ a) d aM (aj (aW T.aH T.aZ (pw 0)) (aj (pw 1) (aj (pw 2) (aj (pw 3) ao))))) ao)))
  (au (aJ (ef mY (bI (aj aO ao)) (pw 3)))))),?_⟩
 have a:=g.1;obtain⟨n,f,v,b,A,s,u⟩:=g.2.read;have i:q.id=m:=by simpa using XQ c
 have r:=a.fT.now.w.fit.len;have k:=k;have T:=JQ a c;have e:=N2 S.schema S.session.now t q;have j:(backRow S.schema S.session.now t q).vals.length<=4:=by rw[T.rD];obtain⟨b,f⟩:∃b,S.schema[t]? =some b:=⟨_,Wr l⟩;rw[fH f];show a.so.cols b (Wq f)
 have o:(q.id<100/\(rowAt S.session.base t q.id).isSome=true)∨(100<=q.id/\q.id<S.session.next):=by obtain⟨n,b,f⟩:=gT (Xf c);show .inl ⟨a.J2 t n b q f,by rw[i,c];rfl⟩
 generalize n:backRow S.schema S.session.now t q=b at k T e j;left;show⟨y,x,z,S,t,m,q,rfl,g,l,c,λp A j E f=> ?_⟩;rw[n]at f;obtain⟨q,c⟩:=aD.ob j s;show⟨q,_,c,rfl,_,⟨q,c⟩,_,rfl,v,t,m,p,b.vals,S.session.now,rfl,cV.same u.now j,by rw[r];show a.so.few,by lia,vO a.fT.now,.inl (bG.of f),λs A n l=> ?_⟩;have q:({id:=m,vals:=b.vals}:aB)=b:=Iv (by change m=b.id;rw[e,i]) rfl;rw[q]at l
 have ok:fS S.schema S.session.base {base:=S.session.base,now:=putRow S.session.now t b,next:=S.session.next}:=by
  show a.fT.put T ?_ (Wu _) a.fT.hi (by rw[e];show o);rcases h with h|⟨r,d,q⟩
  show .inl h;show .inr ⟨r,d,by rw[e,i];show q⟩
 show Out.change k g (j.trans n) l ok λA q kk=>⟨by rw[Wx];lia,λT a=> ?_⟩;have l:=q _ _ (b6 (bF f c (by simp))) (n _ _ f);show⟨T,p,[.int 0],aG b.vals,rfl,rfl,av,aD.new a _ _ l,by rw[Wl,Wx];simp only[WG,Xj];lia,λf q=>kk f _ ((aD.new a).trans (aD.new q)) av⟩
inductive Ml(cc:aC->ai)(a:ah V)(H:Hp)(Q:VK)(b:XK):Prop
 |mk (sa pa ua S t i) (_:a=[.ref sa,.int t,.int i]) (_:kQ cc H sa pa ua S) (_:Out cc H sa pa ua (Vauowc.step S (.back t i)) Q):Ml cc a H Q b
theorem Cw(g:En P w K B base CT cc I):fc P w K B base CT "bring_back" 5 ["session","table","number"] (Ml cc):=by
 show cg g g.fs.Bs ["session","table","number","refusal"] λxK xJ xG xT xX H x6 Q xH p A xF T=> ?_;have G:=d8 p;obtain⟨e,d,f,S,t,i,rfl,a,k⟩:=A
 show⟨_,(aK (aP 3 xF.nd (aR (iH g) p aM (aj (pw 0) (aj (pw 1) ao))))
  (aK (bz (aQ fK (pw 3) aO (a_ _))
  (au (aJ (bI (aj (pw 3) ao))))
  aN)
  (aK (bz (gX (fW G (pw 2) (bH aY (aW T.aH T.bV (pw 0)) (pw 1))))
  (au (aJ (bI (aj (bA rfl T.jg) ao))))
  aN)
  (aK (bz (gX (m9 G (pw 2) (bH aY (aW T.aH T.aZ (pw 0)) (pw 1))))
  (au (aJ (bI (aj aO ao))))
  aN)
  (aK (bz (dg (aR (AY g) p aM (aj (pw 0) (aj (pw 1) ao))))
  (au (aJ (bI (aj (bA rfl T.ic) ao))))
  aN)
  (au (aJ (aR (qz g) p aM (aj (pw 0) (aj (pw 1) (aj (pw 2) ao))))))))))),?_⟩
 have U:=a.1;obtain⟨xY,xP,xR,xU,xZ,E,J⟩:=a.2.read;have k:Out cc H e d f (onTable S t λu=>if i<0 then(S,[-5])else backing S u i.toNat) Q:=k;rw[gO]at k;have sz:∀{j:Nat},j<=10->j<=sizeLine:=λ{j} A=>by rw[Wx];lia
 left;show⟨e,d,f,S,t,rfl,a,?_⟩;left;unfold JP;by_cases v:0<=t/\t<(S.schema.length:Int);rw[Wt v]at k|-;show .inl ⟨rfl,?_⟩;right;obtain⟨n,rfl⟩:=WO v.1;rw[WQ]at k;have o:n<S.schema.length:=by lia
 obtain⟨xC,xQ,ld,xO,x,rfl,xq,xr,C,xu,D,L,M⟩:=j4 J.base (t:=n) (by rw[U.base.w.fit.len];show o);obtain⟨xE,xS,W,xW,z,rfl,xx,Z,xB,xg,F,O,R⟩:=j4 J.now (t:=n) (by rw[U.fT.now.w.fit.len];show o);left;show⟨_,E,_,rfl,xC,rfl,_,bG.of xq,_,bJ xr,ld,rfl,_,dJ.k (k:=Sum.inl i) xu,?_⟩
 have xj:(if i<0 then(S,[-5])else backing S n i.toNat)=match bK x i,bK z i with
  |none,_=>(S,[-5])
  |some _,some _=>(S,[1])
  |some s,none=>if 8<=(tableAt S.session.now n).length then(S,[-6])else Vauowc.become S (withNow S (putRow S.session.now n (backRow S.schema S.session.now n s))) (0::(backRow S.schema S.session.now n s).vals):=by
  unfold bK;by_cases h:i<0;rw[Wt h,Wt h];rw[Wn h,Wn h,Wn h];unfold backing rowAt;rw[bT C,bT xB];cases findRow x i.toNat<;>cases findRow z i.toNat<;>rfl
 rw[xj]at k;cases b:bK x i with
 |none=>rw[(bZ D L M i).1 b];rw[b]at k;have k:Out cc H e d f (S,[-5]) Q:=k;rw[Wt rfl];show⟨sz (by lia),λy c=>k.new a (aD.refl _) c⟩
 |some q=>
  obtain⟨xV,Y,xN⟩:=(bZ D L M i).2 q b;rw[Y];rw[b]at k;rw[Wn (by simp)];left;show⟨_,E,_,rfl,xE,rfl,_,bG.of xx,_,bJ Z,W,rfl,_,dJ.k (k:=Sum.inl i) xg,?_⟩;cases l:bK z i with
  |some s=>obtain⟨u,X,_⟩:=(bZ F O R i).2 s l;rw[X,Wt (show(some (V.ref u)).isSome=true from rfl)];rw[l]at k;have k:Out cc H e d f (S,[1]) Q:=k;show⟨sz (by lia),λy c=>k.new a (aD.refl _) c⟩
  |none=>rw[(bZ F O R i).1 l,Wn (by simp)];rw[l]at k;have r:Out cc H e d f (if 8<=(tableAt S.session.now n).length then(S,[-6])else Vauowc.become S (withNow S (putRow S.session.now n (backRow S.schema S.session.now n q))) (0::(backRow S.schema S.session.now n q).vals)) Q:=k;left;show⟨e,d,f,S,n,rfl,a,o,?_⟩;by_cases m:8<=(tableAt S.session.now n).length;rw[Wt m]at r;show .inr ⟨by rw[WK m],sz (by lia),λy c=>r.new a (aD.refl _) c⟩;rw[Wn m]at r;obtain⟨xh,xM⟩:=iI b;obtain⟨N,rfl⟩:=WO xh;have xA:rowAt S.session.base n N=some q:=(by unfold bK at b;rw[Wn (by lia),WQ]at b;unfold rowAt;rw[bT C];show b);show .inl ⟨by rw[WC m],?_⟩;left;show⟨e,d,f,S,n,N,q,rfl,a,o,xA,.inl (by lia),r⟩
 rw[Wn v]at k|-;show .inr ⟨by simp,sz (by lia),λy c=>k.new a (aD.refl _) c⟩
inductive A1(cc:aC->ai)(a:ah V)(H:Hp)(Q:VK)(b:XK):Prop
 |mk (sa pa ua S t i) (_:a=[.ref sa,.int t,.int i]) (_:kQ cc H sa pa ua S) (_:Out cc H sa pa ua (Vauowc.step S (.refresh t i)) Q):A1 cc a H Q b
theorem rK(d:En P w K B base CT cc I):fc P w K B base CT "refresh_object" 5 ["session","table","number"] (A1 cc):=by
 show cg d d.fs.qO ["session","table","number","refusal","found"] λO N L U V H X Q M v y C T=> ?_;obtain⟨g,f,h,S,x,p,rfl,a,k⟩:=y
 show⟨_,(aE (aP 3 C.nd (aR (fm d) v aM (aj (pw 0) (aj (pw 1) (aj (pw 2) ao)))))
  (aE (bz (aQ fK (pw 3) aO (a_ _))
  (au (aJ (bI (aj (pw 3) ao))))
  aN)
  (aE (aP 4 C.nd (aR (pM d) v aM (aj (pw 0) (aj (pw 1) (aj (pw 2) ao)))))
  (aE (bz (aQ cM (pw 4) (bA rfl T.k_) (a_ _))
  (au (aJ (bI (aj aO ao))))
  aN)
  (aE (bz (aQ cM (pw 4) (bA rfl T.je) (a_ _))
  (au (aJ (bI (aj aO ao))))
  aN)
  (au (aJ (aR (qz d) v aM (aj (pw 0) (aj (pw 1) (aj (pw 2) ao))))))))))),?_⟩
 have W:=a.1;have k:Out cc H g f h (Vauowc.onRow S x p λt u r=>refreshing S t u r) Q:=k;have sz:∀{j:Nat},j<=10->j<=sizeLine:=λ{j} y=>by rw[Wx];lia
 left;show⟨g,f,h,S,x,p,rfl,a,rfl,?_⟩;by_cases i:j3 S x p=0;right;obtain⟨r,m,G,R,D⟩:=gU (λt u r=>refreshing S t u r) i;rw[D]at k;obtain⟨n,rfl⟩:=WO G;rw[WQ]at k m;have z:n<S.schema.length:=by lia
 obtain⟨E,l⟩:=iI m;walk_at "u";have F:=lC m;show .inl ⟨by rw[i],g,f,h,S,n,p,r,rfl,a,z,m,rfl,?_⟩;unfold refreshing at k;rw[l]at k;cases b:rowAt S.session.base n r.id with
 |none=>
  rw[b]at k;have c:rowState S.session n r=1:=by unfold rowState;rw[b]
  rw[c,Wt rfl];show⟨sz (by lia),λA e=>Out.new (l:=[1]) k a (aD.refl _) e⟩
 |some q=>
  rw[b]at k;have s:Out cc H g f h (if q=r then(S,[2])else Vauowc.become S (withNow S (putRow S.session.now n (backRow S.schema S.session.now n q))) (0::(backRow S.schema S.session.now n q).vals)) Q:=k;by_cases o:q=r;have c:rowState S.session n r=0:=by unfold rowState;rw[b];show Wt o
  rw[Wt o]at s;rw[c,Wn (by simp)];show⟨rfl,?_⟩;rw[Wt rfl];show⟨sz (by lia),λA e=>s.new a (aD.refl _) e⟩;have c:rowState S.session n r=2:=by unfold rowState;rw[b];show Wn o
  rw[Wn o]at s;rw[c,Wn (by simp)];show⟨rfl,?_⟩;rw[Wn (by simp)];obtain⟨J,rfl⟩:=WO E;rw[WQ]at l;show⟨g,f,h,S,n,J,q,rfl,a,z,by rw[l];show b,.inr ⟨r,F,l.symm⟩,s⟩
 rw[lB _ i]at k;show .inr ⟨by simpa using i,sz (by lia),λA e=>k.new a (aD.refl _) e⟩
noncomputable def oG (c:Nat) (v:Int) (h:Int) (r:aB):VauowBase.Row:=if(r.id:Int)=h then{id:=r.id,vals:=r.vals.set c v}else r
def dG(c:Nat)(v:Int)(b:ah Int)(a:ah aB):ah VauowBase.Row:=b.foldl (λa h=>a.map (oG c v h)) a
theorem tQ c v h r:(oG c v h r).id=r.id:=by unfold oG;split<;>rfl
theorem Mm c v h r:(oG c v h r).vals.length=r.vals.length:=by unfold oG;split;show XM;rfl
structure pN(c:Nat)(rows:ah aB):Prop where
 few:rows.length<=8
 rD:∀r∈rows,c<r.vals.length/\r.vals.length<=4
theorem pN.map(g:pN c a):pN c (a.map (oG c v h)):=by show⟨by rw[Wl];show g.few,λr b=> ?_⟩;obtain⟨q,a,rfl⟩:=Wy.mp b;rw[Mm];show g.rD q a
theorem vQ(a:(bK d x).isSome=true):(bK (d.map (oG f v h)) x).isSome=true:=by unfold bK at a|-;split at a;cases a;rename_i b;rw[Wn b];unfold findRow at a|-;rw[aa1]at a|-;obtain⟨r,c,e⟩:=a;show⟨_,Xc c,by rw[tQ];show e⟩
theorem Qw(g:b4 a):b4 (a.map (oG c v h)):=by unfold b4;rw[W9];show g.imp λ{a b} z=>by rw[tQ,tQ];show z
theorem EL{H:Hp}{e:ah ai}{b:Db}{u c:Nat}{f:ai}{a:ah aB}{v h:Int}(x:u<b.length)(N:e.Nodup)(s:e[u]? =some f)(w:Paired (dm H) (e.map V.ref) (b.set u a))(ok:pN c a)(E:(bK a h).isSome=true):
 ∃r i,bK a h=some r/\H i=some (.tup (aG r.vals))/\dJ H f (.int h) (some (.ref i))/\c<r.vals.length/\r.vals.length<=4/\
  ∀d p,aD H d->d p=some (.tup (aG (r.vals.set c v)))->∃n,d f=some (.dK n)/\n.length<=8/\Paired (dm (upd d f (.dK (fV n (Sum.inl h) (.ref p))))) (e.map V.ref) (b.set u (a.map (oG c v h))):=by
 obtain⟨r,g⟩:=YJ.mp E;have S:u<(b.set u a).length:=by rw[XM];show x
 have l:(b.set u a)[u]? =some a:=Xe x;obtain⟨W,M,R,T,rfl,D,J,O,o⟩:=b_ w l;have:=W5 ((GZ M).symm.trans s);subst this;obtain⟨i,z,G⟩:=(bZ J O o h).2 r g;have k:=lC g;obtain⟨K,L⟩:=ok.rD r k;obtain⟨A,t⟩:=iI g;obtain⟨m,rfl⟩:=WO A;rw[WQ]at t;show⟨r,i,g,G,z▸dJ.k (k:=Sum.inl (m:Int)) D,K,L,λd p Q I=> ?_⟩;obtain⟨U,B,q,C⟩:=Ex (r:={id:=m,vals:=r.vals.set c v}) N (Rows.same w Q) s I;rw[bT l]at q;show⟨_,B,by unfold aL;rw[Wl,q];show ok.few,?_⟩;have y:putRow (b.set u a) u {id:=m,vals:=r.vals.set c v}=b.set u (a.map (oG c v (m:Int))):=by unfold putRow;rw[bT l,List.set_set,gw o ⟨r,k,t.symm⟩];congr 1;show Xv λP F=> ?_;unfold oG;by_cases j:P.id=m;have:=fQ o F k (by lia);subst this;rw[Wt j,Wt (by lia),<- j];rw[Wn j,Wn (by lia)]
 rw[<- y];show C
structure WL(c:Nat)(db:Db)(u:Nat)(as:ah ai)(ns:ah Int)(H:Hp)(rows:ah aB):Prop where
 pr:Paired (dm H) (as.map V.ref) (db.set u rows)
 ok:pN c rows
 ns:∀h∈ns,(bK rows h).isSome=true
inductive vR(K:ay)(l:ah V)(H:Hp)(Q:VK)(m:XK):Prop
 |mk (i:V) (u c:Nat) (j:Int) (g k:ai) (e f:ah Int) (b:Db) (a:ah aB) (_:l=[i,.int u,.int c,.int j,.ref g,.ref k]) (_:cV H i b) (_:b.length<=4) (_:b[u]? =some a) (_:pN c a) (_:H g=some (.lst (aG e))) (_:H k=some (.lst (aG f))) (_:(∀h∈e,(bK a h).isSome=true)) (_:(∀h∈f,(bK a h).isSome=true)) (_:∀v d,aD H d->cV d v (b.set u (dG c j f (dG c 0 e a)))->Q v d):vR K l H Q m
theorem ER(a:En P w K B base CT cc I):fc P w K B base CT "with_list" 2 ["tables","other","index","number","dropped","named"] (vR K):=by
 show cg a a.fs.C6 ["tables","other","index","number","dropped","named","others","rows","holder"] λf y A e s xx b Q E v h sc T=> ?_;have p:=d8 v;obtain⟨R,u,c,i,Q,xj,d,m,r,x,rfl,e,f,y,C,g,xB,n,A,k⟩:=h
 show⟨_,(aK (aP 6 sc.nd (aR (oZ a) v aM (aj (pw 0) ao)))
  (aK (aP 7 sc.nd (bH aY (pw 6) (pw 1)))
  (aK (cS WT rfl (cC (pv 4)) (bh 8 sc.nd)
  (au (iT p (pw 7) (pw 8) (aR (jE a) v aM (aj (er p (pw 7) (pw 8)) (aj (pw 2) (aj aO ao)))) rfl)))
  (aK (cS WT rfl (cC (pv 5)) (bh 8 sc.nd)
  (au (iT p (pw 7) (pw 8) (aR (jE a) v aM (aj (er p (pw 7) (pw 8)) (aj (pw 2) (aj (pw 3) ao)))) rfl)))
  (au (aJ (pw 6))))))),?_⟩
 have p:u<r.length:=(Wo.mp y).1;left;show⟨R,r,rfl,e,f,λz q E T l b xC o a=> ?_⟩;have e:r.set u x=r:=by show Yd λj=> ?_;by_cases L:j=u;subst L;rw[Xe p,y];rw[Xn (λy=>L y.symm)]
 rw[<- e]at a;have y:q.length=r.length:=by have:=aT a;rw[Wl,XM]at this;show this
 obtain⟨t,J⟩:∃t,q[u]? =some t:=⟨_,Wr (by lia)⟩;have y:(q.map V.ref)[u]? =some (.ref t):=by rw[Ws,J];rfl
 have xA:=o t (Wq J);left;show⟨_,bG.of b,_,bJ y,?_⟩;walk_at "l";show⟨_,rfl,Q,rfl,⟨_,bG.of (l _ _ g)⟩,dN (xs:=aG d) (λj o f =>QN λ(e:az V)=>Jt (o=[some R,some (.int u),some (.int c),some (.int i),some (.ref Q),some (.ref xj),some (.ref z),some (.ref t),e]) (aD xx f) (f z=some (.lst (q.map V.ref))) (WL c r u q m f (dG c 0 (d.take j) x)) (∀h∈d,(bK (dG c 0 (d.take j) x) h).isSome=true)) ⟨none,rfl,l,b,⟨a,C,A⟩,n⟩ ?_ ?_ ?_⟩;rintro j o f L ⟨e,rfl,a,_⟩;show bG.of (a _ _ g);rintro j xJ o H b ⟨e,rfl,a,g,⟨T,G,M⟩,y⟩;rw[Ws]at b;cases l:d[j]? with
 |none=>rw[l]at b;cases b
 |some h=>
  rw[l]at b;cases b;obtain⟨xq,F,v,X,S,xg,xh,W⟩:=EL (v:=0) p xC J T G (y h (Wq l));have Z:d.take (j+1)=d.take j++[h]:=by rw[W7,l];rfl
  have N:dG c 0 (d.take (j+1)) x=(dG c 0 (d.take j) x).map (oG c 0 h):=by unfold dG;rw[Z,ZF];rfl
  left;show⟨.ref F,S,F,c,0,xq.vals,rfl,X,xg,xh,λxu O n Y=> ?_⟩;obtain⟨xG,E,xF,U⟩:=W O xu n Y;show⟨_,m8.k (k:=Sum.inl h) E (by rw[Wx];lia),λxE xH A=>by rw[aF (aA A xA)];show n _ _ (a _ _ A),by rw[aF (bF (n _ _ g) E (by simp))];show n _ _ g,?_,λC D => ?_⟩;rw[N];show⟨U,G.map,λC D =>vQ (M C D)⟩;rw[N];show vQ (y C D)
 rintro o H ⟨e,rfl,a,g,y,_⟩;rw[W2 (by simp)]at y;generalize dG c 0 d x=xr at y k;left;show⟨_,rfl,xj,rfl,⟨_,bG.of (a _ _ xB)⟩,dN (xs:=aG m) (λj o f =>QN λ(e:az V)=>QO (o=[some R,some (.int u),some (.int c),some (.int i),some (.ref Q),some (.ref xj),some (.ref z),some (.ref t),e]) (aD xx f) (f z=some (.lst (q.map V.ref))) (WL c r u q m f (dG c i (m.take j) xr))) ⟨e,rfl,a,g,y⟩ ?_ ?_ ?_⟩;rintro j o f L ⟨e,rfl,a,_⟩;show bG.of (a _ _ xB);rintro j xJ o H b ⟨e,rfl,a,g,⟨T,G,M⟩⟩;rw[Ws]at b;cases l:m[j]? with
 |none=>rw[l]at b;cases b
 |some h=>
  rw[l]at b;cases b;obtain⟨xq,F,v,X,S,xg,xh,W⟩:=EL (v:=i) p xC J T G (M h (Wq l));have Z:m.take (j+1)=m.take j++[h]:=by rw[W7,l];rfl
  have N:dG c i (m.take (j+1)) xr=(dG c i (m.take j) xr).map (oG c i h):=by unfold dG;rw[Z,ZF];rfl
  left;show⟨.ref F,S,F,c,i,xq.vals,rfl,X,xg,xh,λxu O n Y=> ?_⟩;obtain⟨xG,E,xF,U⟩:=W O xu n Y;show⟨_,m8.k (k:=Sum.inl h) E (by rw[Wx];lia),λxE xH A=>by rw[aF (aA A xA)];show n _ _ (a _ _ A),by rw[aF (bF (n _ _ g) E (by simp))];show n _ _ g,?_⟩;rw[N];show⟨U,G.map,λC D =>vQ (M C D)⟩
 rintro o H ⟨e,rfl,a,g,y⟩;rw[W2 (by simp)]at y;left;show k _ H a ⟨z,_,rfl,g,y.pr⟩
theorem l0 c v:∀a rows,dG c v a rows=rows.map λr=>if(r.id:Int)∈a then{id:=r.id,vals:=r.vals.set c v}else r
 |[],rows=>by change rows=_;simp
 |h::a,rows=>by change dG c v a (rows.map (oG c v h))=_;rw[l0 c v a,WN];show Xv λr _=> ?_;change(if((oG c v h r).id:Int)∈a then _ else _)=_;rw[tQ];unfold oG;by_cases c:(r.id:Int)∈a;rw[Wt c,Wt (Wz _ c)];split;simp;rfl;rw[Wn c];by_cases a:(r.id:Int)=h;rw[Wt a,Wt (by rw[a];show WD)];rw[Wn a,Wn (λz=>(WB.mp z).elim a c)]
theorem EV(b:∀n∈a,0<=n) i:(toNats a).contains i=decide ((i:Int)∈a):=by
 rw[Xg,Y7,XG];unfold toNats;rw[Wy];constructor;rintro⟨n,a,e⟩;have:=b n a;have b:n=(i:Int):=by lia
 rw[<- b];show a;intro h;show⟨_,h,WQ i⟩
def gb(b:ah aB)(c:Nat)(i:Int)(a:ah Int):ah Int:=((b.filter λr=>r.vals[c]? ==some i).map λr=>(r.id:Int)).filter λh=>decide (h∉a)
theorem JR(z:d[u]? =some b)(h:b4 b)(e:∀n∈a,0<=n):relisted d i u c (toNats a)=d.set u (dG c (i:Int) a (dG c 0 (gb b c (i:Int) a) b)):=by
 unfold relisted;rw[bT z,l0,l0,WN];congr 1;show Xv λr z=> ?_;rw[EV e];have e:(r.id:Int)∈gb b c (i:Int) a↔(r.vals[c]? ==some (i:Int))=true/\(r.id:Int)∉a:=by unfold gb;rw[W_,Wy];constructor;rintro⟨⟨q,g,u⟩,d⟩;obtain⟨u,f⟩:=W_.mp g;have:q=r:=fQ h u z (by lia);subst this;show⟨f,XT d⟩;rintro⟨u,d⟩;show⟨⟨r,W_.mpr ⟨z,u⟩,rfl⟩,WK d⟩
 change _=(if(((if(r.id:Int)∈gb b c (i:Int) a then({id:=r.id,vals:=r.vals.set c 0}:aB)else r).id:Nat):Int)∈a then _ else _);have u:(if(r.id:Int)∈gb b c (i:Int) a then({id:=r.id,vals:=r.vals.set c 0}:aB)else r).id=r.id:=by split<;>rfl
 rw[u];by_cases b:(r.id:Int)∈a;rw[Wt (WK b),Wt b];simp only[Wn (λz=>(e.mp z).2 b)];rw[Wn (by rw[WC b];simp),Wn b];by_cases a:(r.vals[c]? ==some (i:Int))=true;rw[Wt a];simp only[Wt (e.mpr ⟨a,b⟩)];rw[Wn a];simp only[Wn (λz=>a (e.mp z).1)]
theorem Mp(e:r[u]? =some a)(d:∀n∈b,0<=n):(stuckIn s r i u c (toNats b)).map (λj=>(j:Int))=if mayBeNone s u c=true then none else(gb a c (i:Int) b).head? :=by
 unfold stuckIn;split;rfl;unfold Vauowc.listOf gb;rw[bT e,List.head?_filter];generalize(a.filter λr=>r.vals[c]? ==some (i:Int))=l
 induction l with
 |nil=>rfl
 |cons r l e=>rw[WM,WM,XO,XO,EV d];by_cases a:(r.id:Int)∈b;rw[WK a,WC (λz=>z a)];show e;rw[WC a,WK a];rfl
theorem N3{b:ah aB}(a:ah Int){c:Db}{u:Nat}(d:c[u]? =some b):(a.any λj=>decide (j<0)||(rowAt c u j.toNat).isNone)= !(a.all λj=>(bK b j).isSome):=by
 induction a with
 |nil=>rfl
 |cons j a c=>rw[Yn,Zd,c,Bool.not_and];congr 1;unfold bK rowAt;rw[bT d];by_cases a:j<0;rw[Wt a,WK a];rfl;rw[Wn a,WC a,aa2];cases findRow b j.toNat<;>rfl
theorem none_of{t:Nat}(h:(columnsOf s u)[c]? =some a)(d:a.kind= .ref t b n):mayBeNone s u c=b:=by unfold mayBeNone;rw[h];change(match a.kind with| .ref _ n _=>n|_=>false)=b;rw[d]
theorem fS.relist(ok:fS s h x){t:Nat}(b:refersInto s u c=some t)(f:x.now[u]? =some a):fS s h {base:=x.base,now:=x.now.set u (dG c i l (dG c 0 e a)),next:=x.next}:=by
 have p:=(Wo.mp f).1;have one:∀(v:Int)(r:aB),dZ s u r->dZ s u {id:=r.id,vals:=r.vals.set c v}:=λv r g=>dZ.set g λz=>by rw[b]at z;cases z
 have n:∀(v:Int)(b:ah Int)(a:ah aB),(a.length<=8/\b4 a/\∀r∈a,dZ s u r)->((dG c v b a).length<=8/\b4 (dG c v b a)/\∀r∈dG c v b a,dZ s u r)/\(dG c v b a).map (·.id)=a.map (·.id):=by
  intro v b a ⟨q,o,m⟩;rw[l0];have k:∀r:aB,(if(r.id:Int)∈b then({id:=r.id,vals:=r.vals.set c v}:aB)else r).id=r.id:=λr=>by split<;>rfl
  show⟨⟨by rw[Wl];show q,?_,λr d=> ?_⟩,?_⟩;unfold b4;rw[W9];show o.imp λ{b h} z=>by rw[k,k];show z
  obtain⟨q,h,rfl⟩:=Wy.mp d;split;show one v q (m q h);show m q h;rw[WN];show Xv λr _=>k r
 obtain⟨k,b⟩:=n 0 e a ⟨ok.now.w.fit.few u a f,ok.now.w.ri u a f,λr d=>ok.now.row f d⟩;obtain⟨g2,v⟩:=n i l _ k;rw[b]at v;have k:∀(j:Nat) b,(x.now.set u (dG c i l (dG c 0 e a)))[j]? =some b->(j=u/\b=dG c i l (dG c 0 e a))∨x.now[j]? =some b:=by intro j b e;by_cases l:j=u;subst l;rw[Xe p]at e;show .inl ⟨rfl,(W5 e).symm⟩;rw[Xn (λz=>l z.symm)]at e;show .inr e
 show⟨ok.base,dX.mk' (by rw[XM];show ok.now.w.fit.len) λj b e=> ?_,ok.lo,ok.hi,λj b e r d=> ?_⟩;rcases k j b e with⟨rfl,rfl⟩|e
 show g2;show⟨ok.now.w.fit.few j b e,ok.now.w.ri j b e,λr d=>ok.now.row e d⟩;rcases k j b e with⟨rfl,rfl⟩|e
 have:r.id∈a.map (·.id):=by rw[<- v];show Xc d
 obtain⟨q,h,u⟩:=Wy.mp this;have:=ok.ids j a f q h;have u:=u;rw[u]at this;show this;show ok.ids j b e r d
theorem iJ{K:ay}(d:bG K b c (aG l)):(∀i H,i<l.length->aD b H->(CG K c).go i H)/\(∀H,aD b H->(CG K c).stop l.length H)/\∀i z H x a,l[i]? =some z->aD b H->(CG K c).BE i H x a->aD H a/\x= .int z:=by have b:(aG l).length=l.length:=Wl _;show⟨λi H f s=>(jn d).1 i H (by lia) s,λH s=>by have:=(jn d).2.1 H s;rw[b]at this;show this,λi z H x a e s c=> ?_⟩;obtain⟨rfl,rfl⟩:=(jn d).2.2 i (.int z) H x a (by rw[Ws,e];rfl) s c;show⟨aD.refl _,rfl⟩
theorem jK(h:Paired (λy z=>y=g z) r a):r=a.map g:=by
 induction h with
 |nil=>rfl
 |cons r _ h=>rw[r,h];rfl
theorem EW h:∀l,F9 (.int h) (aG l)=decide (h∈l):=by
 intro l;rw[Xg,XG];unfold F9;rw[X7];constructor;rintro⟨x,b,e⟩;obtain⟨n,a,rfl⟩:=Wy.mp b;have:n=h:=by simpa[OI]using e
 rw[<- this];show a;intro e;show⟨.int h,Xc e,by simp[OI]⟩
theorem rL:∀l,(aG l).all jt=true
 |[]=>rfl
 |_::l=>by change(true&&(aG l).all jt)=true;rw[rL l];rfl
inductive EX(K:ay)(cc:aC->ai)(a:ah V)(H:Hp)(Q:VK)(b:XK):Prop
 |mk (sa pa ua S t i u c na l) (_:a=[.ref sa,.int t,.int i,.int u,.int c,.ref na]) (_:kQ cc H sa pa ua S) (_:H na=some (.lst (aG l))) (_:l.length<=5000) (_:Out cc H sa pa ua (Vauowc.step S (.relist t i u c l)) Q):EX K cc a H Q b
theorem EY(C:En P w K B base CT cc I):fc P w K B base CT "make_list" 4 ["session","table","number","other","index","named"] (EX K cc):=by
 show cg C C.fs.C7 ["session","table","number","other","index","named","refusal","before","dropped","holder"] λxT zD zu zN s L zV xu zx d h sc T=> ?_;have y9:=d8 d;obtain⟨U,xj,xr,S,t,i,x,c,xH,l,rfl,u,G,zH,k⟩:=h
 show⟨_,(aK (aP 6 sc.nd (aR (o7 C) d aM (aj (pw 0) (aj (pw 1) (aj (pw 2) (aj (pw 3) (aj (pw 4) ao)))))))
  (aK (bz (aQ fK (pw 6) aO (a_ _))
  (au (aJ (bI (aj (pw 6) ao))))
  aN)
  (aK (bz (gM (dg (bw (Gb rfl) rfl T.Al boot_all (aj (ju (own:=[("holder",9)]) rfl sc.nd (cC (pv 5)) (cY (N:=["session","table","number","other","index","named","refusal","before","dropped","holder"]) (sc:=bD mQ) (by decide+kernel)) (λ_ _ _ _ _=>(bh 9 sc.nd)) (λ_ _ _ _ _=>fU) (λ_ _ _ _ _=>(FQ (m9 y9 (pw 9) (bH (show ML _ (Nh K)from aY) (aW T.aH T.aZ (pw 0)) (pw 3)))))) ao))))
  (au (aJ (bI (aj (bA rfl T.ie) ao))))
  aN)
  (aK (aP 7 sc.nd (aR (vC C) d aM (aj (aW T.aH T.aZ (pw 0)) (aj (pw 3) (aj (pw 4) (aj (pw 2) ao))))))
  (aK (DB (i:=8) (own:=[("holder",9)]) rfl sc.nd rfl rfl (HK rfl rfl rfl (by decide+kernel)) (cC (pv 7)) (cY (N:=["session","table","number","other","index","named","refusal","before","dropped","holder"]) (sc:=bD mQ) (by decide+kernel)) (λ_ _ _ _ _=>(bh 9 sc.nd)) (λ_ _ _ _ _=>p_ (aQ (show pR _ (compareOp .NotIn) (SK K true)from p8) (pw 9) (pw 5) (by with_unfolding_all rfl))) (λ_ _ _ _ _=>(pw 9)))
  (aK (bz (PW.pt (gK (aQ p5 (bw b5 rfl T.cO Xy (aj (pw 8) ao)) aO (a_ _)) (gY (gM (dg (aW T.bL T.cH (bH aY (bH aY (aW T.aH T.bq (pw 0)) (pw 3)) (pw 4))))))))
  (au (aJ (bI (aj aO (aj (bH aY (pw 8) aO) ao)))))
  aN)
  (aK (bP (di T.aH (eX C) d aM (pw 0) (aj (aR (ER C) d aM (aj (aW T.aH T.aZ (pw 0)) (aj (pw 3) (aj (pw 4) (aj (pw 2) (aj (pw 8) (aj (pw 5) ao))))))) ao)))
  (au (aJ (bI (aj aO ao))))))))))),?_⟩
 have v:=u.1;obtain⟨zQ,zK,zL,zO,zU,Y,xg⟩:=u.2.read;have sz:∀{j:Nat},j<=10->j<=sizeLine:=λ{j} h=>by rw[Wx];lia
 replace k:Out cc L U xj xr (Vauowc.onRow S t i λy N _=>onLink S y x c λe k=>relisting S N e k l) xu:=k;left;show⟨U,xj,xr,S,t,i,x,c,rfl,u,?_⟩;left;by_cases o:oF S t i x c=0
 . right;obtain⟨yV,yU,Q,_⟩:=lZ (λe k=>relisting S 0 e k l) o;obtain⟨zk,x8,yd,yZ,e⟩:=gU (λy N _=>onLink S y x c λe k=>relisting S N e k l) yV;rw[e,(lZ _ o).2.2.2]at k;obtain⟨zb,zJ,yF,xY⟩:=gS yU;obtain⟨yL,zG⟩:=iI x8;obtain⟨xN,rfl⟩:=WO yd;obtain⟨un,rfl⟩:=WO zb;obtain⟨a,rfl⟩:=WO yF;obtain⟨m,rfl⟩:=WO yL;walk_at "u";simp only[WQ]at k xY Q;show .inl ⟨by rw[o],?_⟩;have yP:=v.fT.now.w.fit.len;right;obtain⟨zp,zT,yq,zE,zq,rfl,yX,yD,ye,yG,yH⟩:=pL xg.wm (t:=un) (by lia);have O:=fH ye;rw[O]at xY;obtain⟨zj,yr,yT,ya,yb⟩:=G7 yH (c:=a) (by lia);obtain⟨xJ,zM,yt,zP,b,rfl,yQ,yO,g,yI,yf,yk,xq⟩:=j4 xg.now (t:=un) (by lia);have yE:=N3 l g;have yW:relisting S m un a l=if(l.all λj=>(bK b j).isSome)=true then(match stuckIn S.schema S.session.now m un a (toNats l)with|some j=>(S,[1,(j:Int)])|none=>Vauowc.become S (withNow S (relisted S.session.now m un a (toNats l))) [0])else(S,[-12]):=by unfold relisting;rw[yE];cases(l.all λj=>(bK b j).isSome)<;>rfl
   rw[yW]at k;left;rw[gj];show⟨_,rfl,xH,rfl,⟨_,bG.of G⟩,?_⟩;dsimp only;show kM l (λ_=>true) (λz W _=>W= .int z) (λD L z xO=>xO= .bl (bK b z).isSome) (by rw[Wx];lia) (λ_ _ _ _ _ h _=>h) (iJ (bG.of G)).1 (iJ (bG.of G)).2.1 (iJ (bG.of G)).2.2 ?_ ?_;rintro D z W xP yp yo zh yw p yC rfl xF yi;left;show⟨_,aD.ob p Y,_,rfl,xJ,rfl,_,bG.of (p _ _ yQ),_,bJ yO,yt,rfl,_,dJ.k (k:=Sum.inl z) (p _ _ yI),xF rfl _ xP (aD.refl _) ?_⟩;cases xS:bK b z with
   |none=>rw[(bZ yf yk xq z).1 xS];rfl
   |some r=>obtain⟨y,yu,_⟩:=(bZ yf yk xq z).2 r xS;rw[yu];rfl
   . intro D ym xP yw p yx x9;rw[gR]at x9;have zc:=jK (g:=λz=>V.bl (bK b z).isSome) x9;have zf:ym=(l.map λz=>(bK b z).isSome).map V.bl:=(by rw[zc,WN];rfl);subst zf;show⟨D,rfl,_,bG.of yx,?_⟩;have xX:(false∈l.map λz=>(bK b z).isSome)↔(l.all λj=>(bK b j).isSome)=false:=(by rw[Wy,abU];constructor;rintro⟨xG,xx,xA⟩;show⟨xG,xx,by rw[xA];simp⟩;rintro⟨xG,xx,xA⟩;show⟨xG,xx,by simpa using xA⟩);cases H:(l.all λj=>(bK b j).isSome)with
     |false=>rw[Wt (xX.mpr H)];rw[H]at k;show⟨sz (by lia),λxh q=>Out.new (l:=[-12]) k u p q⟩
     |true=>
      rw[Wn λz=>by rw[xX.mp z]at H;cases H];rw[H]at k;have J:=k;have xZ:=X6.mp H;have xV:∀h∈l,0<=h:=λh xC=>by obtain⟨r,d⟩:=YJ.mp (xZ h xC);show(iI d).1
      have yg:∀xK∈b,a<xK.vals.length:=λxK yS=>by
       rw[v.fT.now.w.fit.rD un b g xK yS,O]
       lia
      have xW:=v.fT.now.w.fit.few un b g;left;show⟨_,aD.ob p Y,_,rfl,.ref xJ,un,a,(m:Int),S.session.now,b,rfl,cV.same xg.now p,g,xW,yg,λxQ zy zm X=> ?_⟩;left;rw[gj];show⟨_,rfl,xQ,rfl,⟨_,bG.of X⟩,?_⟩;dsimp only;have yl:=p.trans zm;show kM ((b.filter λr=>r.vals[a]? ==some (m:Int)).map λr=>(r.id:Int)) (λh=>decide (h∉l)) (λz W _=>W= .int z) (λD L z xO=>xO= .int z) ?_ (λ_ _ _ _ _ h _=>h) (iJ (bG.of X)).1 (iJ (bG.of X)).2.1 (iJ (bG.of X)).2.2 ?_ ?_;rw[Wl,Wx];have:=X3 (λr:aB=>r.vals[a]? ==some (m:Int)) b
      lia
      rintro D z W M yp yo zh yz xM yC rfl xF yi;left;show⟨_,.inl (bG.of (xM _ _ (yl _ _ G))),rfl,X6.mp (rL l),?_⟩;rw[EW];by_cases Z:z∈l;show .inl ⟨WK Z,yi (WC (λe=>e Z)) M (aD.refl _)⟩;show .inr ⟨WC Z,xF (WK Z) _ M (aD.refl _) rfl⟩
      . intro D ym M yz xM F yR;have zg:=jK (g:=λz=>V.int z) yR;subst zg;have F:M D=some (.lst (aG (gb b a (m:Int) l))):=F;have n:=yl.trans xM;left;show⟨_,.inl (bG.of F),?_⟩;have f:=Mp (s:=S.schema) (c:=a) (i:=m) g xV;have x6:=qy (s:=S.schema) (t:=un) (c:=a) (by rw[O];show ya);rw[x6]at Q;have xU:stuckIn S.schema S.session.now m un a (toNats l)=none->k9 [some (.ref U),some (.int xN),some (.int m),some (.int un),some (.int a),some (.ref xH),some (.int (oF S xN m un a)),some (.ref xQ),some (.ref D),none] M:=(by intro R;rw[R]at J;have yh:Out cc L U xj xr (Vauowc.become S {base:=S.session.base,now:=relisted S.session.now m un a (toNats l),next:=S.session.next} [0]) xu:=J;rw[JR g xq xV]at yh;obtain⟨xR,yc⟩:=aD.ob n Y;have zl:pN a b:=⟨xW,λr d=>⟨yg r d,by rw[v.fT.now.w.fit.rD un b g r d,O];show v.so.cols zq (Wq ye)⟩⟩;have yK:∀h∈gb b a (m:Int) l,(bK b h).isSome=true:=(by intro h xC;obtain⟨E,_⟩:=W_.mp xC;obtain⟨r,d,rfl⟩:=Wy.mp E;unfold bK;rw[Wn (by lia),WQ,gu xq (W_.mp d).1];rfl);left;show⟨xR,_,yc,rfl,_,⟨xR,yc⟩,_,rfl,.ref xJ,un,a,(m:Int),D,xH,gb b a (m:Int) l,l,S.session.now,b,rfl,cV.same xg.now n,by rw[yP];show v.so.few,g,zl,F,n _ _ G,yK,xZ,λzS zz zo yJ=> ?_⟩;have yM:refersInto S.schema un a=some xN:=(by rw[x6];show Q);show Out.change yh u (n.trans zo) yJ (v.fT.relist yM g) λzA zC kk=> ?_;left;show⟨sz (by lia),λxh q=>kk xh _ (aD.new q) av⟩);have zI:(aG (gb b a (m:Int) l)).length=(gb b a (m:Int) l).length:=Wl _;cases xE:yr.kind with
        |number lo zF=>rw[xE]at Q;cases Q
        |ref zR yj zB=>
         rw[none_of (by rw[O];show ya) xE]at f;rw[gJ xE]at yb;cases xB:gb b a (m:Int) l with
         |nil=>
          rw[xB]at f
          have R:stuckIn S.schema S.session.now m un a (toNats l)=none:=by
           cases A:stuckIn S.schema S.session.now m un a (toNats l)with
           |none=>rfl
           |some j=>rw[A]at f;cases yj<;>cases f
          have xT:=xU R;rw[Wn (by simp)];show xT
         |cons o d=>
          rw[xB]at f;rw[Wt (by simp)];show⟨_,aD.ob n Y,_,rfl,zp,rfl,_,bG.of (n _ _ yX),_,bJ yD,yq,rfl,_,bG.of (n _ _ yG),_,bJ yT,zj,rfl,_,aD.ob n yb,_,rfl,?_⟩;cases yj with
          |false=>
           rw[Wn (by simp)]at f;cases A:stuckIn S.schema S.session.now m un a (toNats l)with
           |none=>rw[A]at f;cases f
           |some j=>rw[A]at f J;have yN:(j:Int)=o:=(by injection f);rw[xB]at F;show .inl ⟨rfl,_,bG.of F,.int o,dF (j:=0) rfl rfl,sz (by lia),λxh q=> ?_⟩;have:=Out.new (l:=[1,(j:Int)]) J u n q;rw[yN]at this;show this
          |true=>
           rw[Wt rfl]at f
           have R:stuckIn S.schema S.session.now m un a (toNats l)=none:=by
            cases A:stuckIn S.schema S.session.now m un a (toNats l)with
            |none=>rfl
            |some j=>rw[A]at f;cases f
           show .inr ⟨rfl,xU R⟩
 have J:Out cc L U xj xr (S,[oF S t i x c]) xu:=by
  by_cases E:j3 S t i=0;obtain⟨zk,x8,yd,yZ,e⟩:=gU (λy N _=>onLink S y x c λe k=>relisting S N e k l) E;rw[e,A0 _ E o]at k;show k;have:oF S t i x c=j3 S t i:=by unfold oF;rw[Wn E]
  rw[lB _ E]at k;rw[this];show k
 show .inr ⟨by simpa using o,sz (by lia),λxh q=>J.new u (aD.refl _) q⟩
theorem qI(h:j<=10000):j<=sizeLine:=by rw[Wx];lia
inductive A2(c:ah V)(H:Hp)(Q:VK)(d:XK):Prop
 |mk (a l) (_:c=[.ref a]) (_:H a=some (.lst (aG l))) (_:l.length<=1000) (_:∀r b,aD H b->b r=some (.lst (aG (0::(l.length:Int)::l)))->Q (.ref r) b):A2 c H Q d
theorem vS(a:En P w K B base CT cc I):fc P w K B base CT "tell_set" 1 ["numbers"] A2:=by show cg a a.fs.FN ["numbers"] λf b A d s H l Q E c h k T=> ?_;obtain⟨d,l,rfl,a,b,k⟩:=h;show⟨_,(au (aJ (ef mY (bI (aj aO (aj (bw b5 rfl T.cO Xy (aj (pw 0) ao)) ao))) (pw 0)))),?_⟩;left;have b:(aG l).length=l.length:=Wl _;show⟨_,.inl (bG.of a),qI (by lia),λp c=>⟨p,d,_,_,rfl,rfl,av,aD.new c _ _ a,by rw[b,Wx];simp only[WG,Xj];lia,λq h=>k q _ ((aD.new c).trans (aD.new h)) ?_⟩⟩;rw[av,b];rfl
theorem vU(a:ah aB):toInts (a.map λr=>r.id)=a.map λr=>(r.id:Int):=by unfold toInts;rw[WN];rfl
inductive Mq(cc:aC->ai)(a:ah V)(H:Hp)(Q:VK)(b:XK):Prop
 |mk (sa pa ua S t i u c) (_:a=[.ref sa,.int t,.int i,.int u,.int c]) (_:kQ cc H sa pa ua S) (_:Out cc H sa pa ua (Vauowc.step S (.list t i u c)) Q):Mq cc a H Q b
theorem EZ(f:En P w K B base CT cc I):fc P w K B base CT "tell_list" 4 ["session","table","number","other","index"] (Mq cc):=by
 show cg f f.fs.Df ["session","table","number","other","index","refusal"] λxB xA xq xK xO H xR Q xr h y xj T=> ?_;obtain⟨q,p,v,S,t,i,u,c,rfl,j,k⟩:=y
 show⟨_,(aE (aP 5 xj.nd (aR (o7 f) h aM (aj (pw 0) (aj (pw 1) (aj (pw 2) (aj (pw 3) (aj (pw 4) ao)))))))
  (aE (bz (aQ fK (pw 5) aO (a_ _))
  (au (aJ (bI (aj (pw 5) ao))))
  aN)
  (au (aJ (aR (vS f) h aM (aj (aR (vC f) h aM (aj (aW T.aH T.aZ (pw 0)) (aj (pw 3) (aj (pw 4) (aj (pw 2) ao))))) ao)))))),?_⟩
 have s:=j.1;obtain⟨xP,xJ,X,xN,xQ,G,V⟩:=j.2.read;replace k:Out cc H q p v (Vauowc.onRow S t i λa d _=>onLink S a u c λe k=>(S,0::setRow (Vauowc.listOf S.session.now d e k))) Q:=k;left;show⟨q,p,v,S,t,i,u,c,rfl,j,rfl,?_⟩;by_cases g:oF S t i u c=0;right;obtain⟨N,M,xF,_⟩:=lZ (λe k=>(S,0::setRow (Vauowc.listOf S.session.now 0 e k))) g;obtain⟨Z,x,O,R,e⟩:=gU (λa d _=>onLink S a u c λe k=>(S,0::setRow (Vauowc.listOf S.session.now d e k))) N;rw[e,(lZ _ g).2.2.2]at k;obtain⟨U,xH,C,D⟩:=gS M;obtain⟨E,xE⟩:=iI x;obtain⟨un,rfl⟩:=WO U;obtain⟨l,rfl⟩:=WO C;obtain⟨o,rfl⟩:=WO E;simp only[WQ]at k D;have xG:=s.fT.now.w.fit.len;obtain⟨b,n⟩:∃b,S.session.now[un]? =some b:=⟨_,Wr (by lia)⟩;walk_at "u";have z:=s.fT.now.w.fit.few un b n;show .inl ⟨by rw[g],_,G,_,rfl,X,un,l,(o:Int),S.session.now,b,rfl,V.now,n,z,λY L=> ?_,λa xu xg A=> ?_⟩;rw[s.fT.now.w.fit.rD un b n Y L]
 lia
 have xC:=X3 (λr:aB=>r.vals[l]? ==some (o:Int)) b;have F:Vauowc.listOf S.session.now o un l=(b.filter λr=>r.vals[l]? ==some (o:Int)).map λr=>r.id:=by unfold Vauowc.listOf;rw[bT n]
 show⟨a,_,rfl,A,by rw[Wl];lia,λr xx xh h=>Out.same k j (xg.trans xh) ?_⟩;rw[h,F];unfold setRow;rw[vU,Wl,Wl]
 have W:Out cc H q p v (S,[oF S t i u c]) Q:=by
  by_cases m:j3 S t i=0;obtain⟨Z,x,O,R,e⟩:=gU (λa d _=>onLink S a u c λe k=>(S,0::setRow (Vauowc.listOf S.session.now d e k))) m;rw[e,A0 _ m g]at k;show k;have:oF S t i u c=j3 S t i:=by unfold oF;rw[Wn m]
  rw[lB _ m]at k;rw[this];show k
 show .inr ⟨by simpa using g,qI (by lia),λxM J=>W.new j (aD.refl _) J⟩
inductive Iw(cc:aC->ai)(a:ah V)(H:Hp)(Q:VK)(b:XK):Prop
 |mk (sa pa ua S t c v) (_:a=[.ref sa,.int t,.int c,.int v]) (_:kQ cc H sa pa ua S) (_:Out cc H sa pa ua (Vauowc.step S (.find t c v)) Q):Iw cc a H Q b
theorem Cy(a:En P w K B base CT cc I):fc P w K B base CT "tell_found" 3 ["session","table","index","value"] (Iw cc):=by
 show cg a a.fs.Bu ["session","table","index","value","refusal"] λf m A c s H p Q E d b g T=> ?_;obtain⟨i,h,l,S,t,c,v,rfl,e,k⟩:=b
 show⟨_,(aE (aP 4 g.nd (aR (jq a) d aM (aj (pw 0) (aj (pw 1) (aj (pw 2) ao)))))
  (aE (bz (aQ fK (pw 4) aO (a_ _))
  (au (aJ (bI (aj (pw 4) ao))))
  aN)
  (au (aJ (aR (vS a) d aM (aj (aR (vC a) d aM (aj (aW T.aH T.aZ (pw 0)) (aj (pw 1) (aj (pw 2) (aj (pw 3) ao))))) ao)))))),?_⟩
 have j:=e.1;obtain⟨g,a,s,T,m,o,q⟩:=e.2.read;replace k:Out cc H i h l (onTable S t λf=>onColumn S f c λk=>(S,0::setRow (((tableAt S.session.now f).filter λr=>r.vals[k]? ==some v).map λr=>r.id))) Q:=k;rw[gO]at k;left;show⟨i,h,l,S,t,c,rfl,e,rfl,?_⟩;by_cases b:lA S t c=0;right;obtain⟨a,T,g,m⟩:=gS b;rw[Wt ⟨a,T⟩,jF _ b]at k;obtain⟨un,rfl⟩:=WO a;obtain⟨T,rfl⟩:=WO g;simp only[WQ]at k m;have a:=j.fT.now.w.fit.len;obtain⟨a,g⟩:∃a,S.session.now[un]? =some a:=⟨_,Wr (by lia)⟩;walk_at "u";have m:=j.fT.now.w.fit.few un a g;rw[bT g]at k;show .inl ⟨by rw[b],_,o,_,rfl,s,un,T,v,S.session.now,a,rfl,q.now,g,m,λu p=> ?_,λf A x n=> ?_⟩;rw[j.fT.now.w.fit.rD un a g u p]
 lia
 have g:=X3 (λr:aB=>r.vals[T]? ==some v) a;show⟨f,_,rfl,n,by rw[Wl];lia,λr T a d=>Out.same k e (x.trans a) ?_⟩;rw[d];unfold setRow;rw[vU,Wl,Wl]
 have T:Out cc H i h l (S,[lA S t c]) Q:=by
  by_cases a:0<=t/\t<(S.schema.length:Int);rw[Wt a,nO _ a b]at k;show k;rw[Wn a]at k;have:lA S t c= -3:=by unfold lA;rw[Wn a]
  rw[this];show k
 show .inr ⟨by simpa using b,qI (by lia),λp a=>T.new e (aD.refl _) a⟩
inductive OZ(cc:aC->ai)(a:ah V)(H:Hp)(Q:VK)(b:XK):Prop
 |mk (sa pa ua S t i) (_:a=[.ref sa,.int t,.int i]) (_:kQ cc H sa pa ua S) (_:Out cc H sa pa ua (Vauowc.step S (.row t i)) Q):OZ cc a H Q b
theorem G8(a:En P w K B base CT cc I):fc P w K B base CT "tell_row" 3 ["session","table","number"] (OZ cc):=by
 show cg a a.fs.FP ["session","table","number","refusal"] λf d A p s H q Q E n h g T=> ?_;have p:=d8 n;obtain⟨e,d,f,S,t,i,rfl,b,k⟩:=h
 show⟨_,(aK (aP 3 g.nd (aR (fm a) n aM (aj (pw 0) (aj (pw 1) (aj (pw 2) ao)))))
  (aK (bz (aQ fK (pw 3) aO (a_ _))
  (au (aJ (bI (aj (pw 3) ao))))
  aN)
  (au (aJ (ef mY (bI (aj aO (aj (aR (pM a) n aM (aj (pw 0) (aj (pw 1) (aj (pw 2) ao)))) ao))) (dH Gp rfl T.nh boot_list (aj (er p (bH aY (aW T.aH T.aZ (pw 0)) (pw 1)) (pw 2)) ao))))))),?_⟩
 have T:=b.1;obtain⟨h,a,g,p,n,l,m⟩:=b.2.read;replace k:Out cc H e d f (Vauowc.onRow S t i λn _ r=>(S,0::rowState S.session n r::r.vals)) Q:=k;left;show⟨e,d,f,S,t,i,rfl,b,?_⟩;left;by_cases c:j3 S t i=0;right;obtain⟨r,a,h,g,p⟩:=gU (λn _ r=>(S,0::rowState S.session n r::r.vals)) c;rw[p]at k;obtain⟨n,rfl⟩:=WO h;walk_at "u";rw[WQ]at k a;have p:n<S.schema.length:=by lia
 show .inl ⟨by rw[c],?_⟩;left;show⟨e,d,f,S,n,i,r,rfl,b,p,a,?_⟩;right;obtain⟨o,f,e,s,v,rfl,j,h,d,Q,g,q,u⟩:=j4 m.now (t:=n) (by rw[T.fT.now.w.fit.len];show p);rw[bT d]at a;obtain⟨s,f,m⟩:=(bZ g q u i).2 r a;walk_at "u";have hw:r.vals.length<=4:=by rw[T.fT.now.w.fit.rD n v d r (lC a)];obtain⟨a,d⟩:∃a,S.schema[n]? =some a:=⟨_,Wr p⟩;rw[fH d];show T.so.cols a (Wq d)
 have g:(aG r.vals).length=r.vals.length:=Wl _;show⟨qI (by lia),λp T=> ?_⟩;have a:aD H (upd H p (.lst [V.int 0,V.int (rowState S.session n r)])):=aD.new T;have d:upd H p (.lst [V.int 0,V.int (rowState S.session n r)]) p=some (.lst [V.int 0,V.int (rowState S.session n r)]):=av;generalize upd H p (.lst [V.int 0,V.int (rowState S.session n r)])=q at a d|-;show⟨_,aD.ob a l,_,rfl,o,rfl,_,bG.of (a _ _ j),_,bJ h,e,rfl,_,f▸dJ.k (k:=Sum.inl i) (a _ _ Q),s,rfl,_,.inr (dO.of (a _ _ m)),λq n=> ?_⟩;show⟨p,q,_,_,rfl,rfl,aD.new n _ _ d,av,by rw[g,Wx];simp only[WG,Xj];lia,λz h=>Out.same k b (a.trans ((aD.new n).trans (aD.new h))) av⟩;rw[lB _ c]at k;show .inr ⟨by simpa using c,qI (by lia),λp T=>k.new b (aD.refl _) T⟩
def j6(l m:ah Int):ah Int:=(l.zipIdx.filter λz=>m[z.2]? !=some z.1).map λz=>(z.2:Int)
inductive sE(d:ah V)(H:Hp)(Q:VK)(e:XK):Prop
 |mk (a b l m) (_:d=[.ref a,.ref b]) (_:H a=some (.tup (aG l))) (_:H b=some (.tup (aG m))) (_:l.length=m.length) (_:l.length<=4) (_:∀r c,aD H c->H r=none->c r=some (.lst (aG (j6 l m)))->Q (.ref r) c):sE d H Q e
theorem E1(c:En P w K B base CT cc I):fc P w K B base CT "differing" 1 ["before","after"] sE:=by
 show cg c c.fs.C0 ["before","after","index","value"] λf d A a s H b Q E u h sc T=> ?_;have e:=d8 u;obtain⟨a,b,l,m,rfl,d,f,g,u,k⟩:=h;show⟨_,(au (aJ (ju (own:=[("index",2),("value",3)]) rfl sc.nd (Lp rfl T.cB (aj (pv 0) ao)) (cY (N:=["before","after","index","value"]) (sc:=bD rP) (by decide+kernel)) (λ_ _ _ _ _=>(show PG _ _ (Kh K 2 _)from(gf (n:=2) rfl (bU (bh 2 sc.nd) (bU (bh 3 sc.nd) eO))))) (λ_ _ _ _ _=>p_ (aQ fK (pw 3) (bH (show ML _ (F8 K)from gh) (pw 1) (pw 2)) (a_ _))) (λ_ _ _ _ _=>(pw 2))))),?_⟩;left;rw[gj];show⟨_,rfl,a,_,rfl,dO.of d,?_⟩;dsimp only;have u:(aG l).length=l.length:=Wl _;have c:l.zipIdx.length=l.length:=Xr;show kM l.zipIdx (λz=>m[z.2]? !=some z.1) (λz x H=>∃T,x= .ref T/\H T=some (.tup [.int (z.2:Nat),.int z.1])) (λD H z y=>y= .int (z.2:Int)) (by rw[c,Wx];lia) (λ_ _ _ _ _ h _=>h) ?_ ?_ ?_ ?_ ?_;intro i a h b;show(Cp (K:=K) d).1 i a (by lia) b;intro a b;have:=(Cp (K:=K) d).2.1 a b;rw[u]at this;rw[c];show this;intro i z a x u c b H;rw[WX]at c;cases h:l[i]? with
 |none=>rw[h]at c;cases c
 |some v=>rw[h]at c;cases c;have:=(Cp (K:=K) d).2.2 i (.int v) a x u (by rw[Ws,h];rfl) b H;rw[XS];show this
 rintro D z x a H u c h b v ⟨T,rfl,l⟩ i d;have u:=Xx.mp c;have c:z.2<m.length:=by rw[<- g];show(Wo.mp u).1
 obtain⟨u,e⟩:∃u,m[z.2]? =some u:=⟨_,Wr c⟩;rw[e]at i d;walk_at "v";show g2 (dO.of l) ?_;left;show⟨_,dO.of (b _ _ f),.int u,bJ (by rw[Ws,e];rfl),rfl,?_⟩;by_cases c:z.1=u;show .inl ⟨by rw[c],d (by rw[c];simp) a (aD.refl _)⟩;show .inr ⟨by simpa using c,i (by simp;show λe=>c e.symm) _ a (aD.refl _) rfl⟩;intro D d a h b c u;have d:=jK (g:=λz:Int×Nat=>V.int (z.2:Int)) u;show k D a b h ?_;rw[c,d];unfold j6 aG;rw[WN];rfl
def mD(b H:Hp)(d:ah V)(c:ah (ah Int)):Prop:=Paired (λv l=>∃a,v= .ref a/\b a=none/\H a=some (.lst (aG l))) d c
theorem mD.same(h:mD b H i g)(s:aD H a):mD b a i g:=bf (λ_ _⟨c,e,d,f⟩=>⟨c,e,d,s _ _ f⟩) h
theorem mD.but(h:mD a H l j)(i:a p=some o)(e:bS [p] H c):mD a c l j:=bf (λ_ _⟨d,f,b,g⟩=>⟨d,f,b,e _ _ (b6 ((aA i b).symm)) g⟩) h
noncomputable def lD (a:ah aB) (t:Nat) (r:aB):az (ah Int):=(match findRow a r.id with
 |none=>some (Vauowc.Change.new t r.id)
 |some q=>if q=r then none else some (.set t r.id (columnsChanged q r))).map changeRow
def nP(a b:ah aB)(t:Nat):ah (ah Int):=b.filterMap (lD a t)++(a.filter λq=>(findRow b q.id).isNone).map λq=>[2,(t:Int),(q.id:Int)]
theorem JS a b t:(changesIn a b t).map changeRow=nP a b t:=by unfold changesIn nP;rw[WZ,List.map_filterMap,WN];rfl
theorem qA q r t:changeRow (.set t r.id (columnsChanged q r))=1::(t:Int)::(r.id:Int)::((j6 q.vals r.vals).length:Int)::j6 q.vals r.vals:=by
 have e:toInts (columnsChanged q r)=j6 q.vals r.vals:=by unfold toInts columnsChanged j6;rw[WN];rfl
 have a:(columnsChanged q r).length=(j6 q.vals r.vals).length:=by rw[<- e];unfold toInts;rw[Wl]
 change(1:Int)::(t:Int)::(r.id:Int)::((columnsChanged q r).length:Int)::toInts (columnsChanged q r)=_;rw[e,a]
theorem A3 l m:(j6 l m).length<=l.length:=by unfold j6;rw[Wl];show Xi (X3 _ _) ?_;rw[Xr];show Wu _
theorem Cz(l:H p=none)(m:c p=some o)(n:aD H d)(h:bS [p] c d)(i:d p=some (.lst xs))(k:mD c d xs u)(g:d a=none)(f:aD d b)(j:b a=some (.lst (aG e))):
 b p=some (.lst xs)/\aD H (L2.upd b p (.lst (xs++[.ref a])))/\bS [p] c (L2.upd b p (.lst (xs++[.ref a])))/\mD c (L2.upd b p (.lst (xs++[.ref a]))) (xs++[.ref a]) (u++[e]):=by
 have u:bS [p] b (L2.upd b p (.lst (xs++[.ref a]))):=bS.upd;have b:=(aA i g).symm;show⟨f _ _ i,λd x e=> ?_,(h.trans (aD.but f _)).trans u,eH ((k.same f).but m u) (.cons ⟨a,rfl,?_,u _ _ (b6 b) j⟩ .nil)⟩;show u _ _ (b6 (aA e l)) (f _ _ (n _ _ e));cases e:c a with
 |none=>rfl
 |some x=>rw[h _ _ (b6 b) e]at g;cases g
inductive Iz(cc:aC->ai)(c:ah V)(H:Hp)(Q:VK)(d:XK):Prop
 |mk (b e f:ai) (S:aI) (t:Nat) (_:c=[.ref b,.int t]) (_:kQ cc H b e f S) (_:t<S.schema.length) (_:∀p xs a,aD H a->a p=some (.lst xs)->mD H a xs (nP (tableAt S.session.base t) (tableAt S.session.now t) t)->xs.length<=16->Q (.ref p) a):Iz cc c H Q d
theorem pO(z:En P w K B base CT cc I):fc P w K B base CT "changes_of_table" 2 ["session","table"] (Iz cc):=by
 show cg z z.fs.pA ["session","table","loaded","now","changes","number","found","columns"] λf v A J s H e Q E c d i T=> ?_;have l:=d8 c;obtain⟨W,C,D,S,t,rfl,h,v,k⟩:=d
 show⟨_,(aK (aP 2 i.nd (bH aY (aW T.aH T.bV (pw 0)) (pw 1)))
  (aK (aP 3 i.nd (bH aY (aW T.aH T.aZ (pw 0)) (pw 1)))
  (aK (aP 4 i.nd (bI ao))
  (aK (cS WT rfl (cC (bw (iO rfl) rfl T.gk boot_sorted (aj (pv 3) ao))) (bh 5 i.nd)
  (aE (aP 6 i.nd (aR (pM z) c aM (aj (pw 0) (aj (pw 1) (aj (pw 5) ao)))))
  (au (bz (aQ cM (pw 6) (bA rfl T.k_) (a_ _))
  (au (bP (fB W8 Xl Xq dh (pw 4) (aj (bI (aj (bA rfl T.jz) (aj (pw 1) (aj (pw 5) ao)))) ao))))
  (au (bz (aQ cM (pw 6) (bA rfl T.g5) (a_ _))
  (aE (aP 7 i.nd (aR (E1 z) c aM (aj (er l (pw 2) (pw 5)) (aj (er l (pw 3) (pw 5)) ao))))
  (au (bP (fB W8 Xl Xq dh (pw 4) (aj (ef mY (bI (aj (bA rfl T.gA) (aj (pw 1) (aj (pw 5) (aj (bw b5 rfl T.cO Xy (aj (pw 7) ao)) ao))))) (pw 7)) ao)))))
  aN))))))
  (aK (cS WT rfl (cC (bw (iO rfl) rfl T.gk boot_sorted (aj (pv 2) ao))) (bh 5 i.nd)
  (au (bz (gX (fW l (pw 5) (pw 3)))
  (au (bP (fB W8 Xl Xq dh (pw 4) (aj (bI (aj (bA rfl T.iV) (aj (pw 1) (aj (pw 5) ao)))) ao))))
  aN)))
  (au (aJ (pw 4)))))))),?_⟩
 have i:=h.1;right;obtain⟨e,J,T,d,A,c,z⟩:=h.2.read;obtain⟨n,J,ld,xu,a,rfl,e,f,l,xE,xA,xr,xF⟩:=j4 z.base (t:=t) (by rw[i.base.w.fit.len];show v);obtain⟨Z,d,X,T,b,rfl,J,A,U,Y,xq,E,G⟩:=j4 z.now (t:=t) (by rw[i.fT.now.w.fit.len];show v);rw[bT l,bT U]at k;have z:=i.fT.now.w.fit.few t b U;have z:=i.base.w.fit.few t a l;have z:T.length=b.length:=by have:=E.length_eq;rw[Wl]at this;show this
 have z:xu.length=a.length:=by have:=xr.length_eq;rw[Wl]at this;show this
 have z:(columnsOf S.schema t).length<=4:=by obtain⟨z,d⟩:∃z,S.schema[t]? =some z:=⟨_,Wr v⟩;rw[fH d];show i.so.cols z (Wq d)
 left;show⟨_,c,_,rfl,n,rfl,_,bG.of e,_,bJ f,?_⟩;left;show⟨_,c,_,rfl,Z,rfl,_,bG.of J,_,bJ A,?_⟩;left;intro p Q;have d:aD H (upd H p (.lst [])):=aD.new Q;have A:upd H p (.lst []) p=some (.lst []):=av;generalize upd H p (.lst [])=z at d A|-;walk_at "l";show⟨_,rfl,X,aL T,_,rfl,.inl (d _ _ Y),gx T,by rw[Wl];lia,λxM q J e c=> ?_⟩;obtain rfl:=iQ E G J e;generalize f:(List.map V.int (b.map λr=>(r.id:Int)))=T at c|-;have J:T.length=b.length:=by rw[<- f];simp
 have J:aD z (upd z q (.lst T)):=aD.new c;have e:upd z q (.lst T) q=some (.lst T):=av;have n:q≠p:=λu=>by rw[u,A]at c;cases c
 generalize upd z q (.lst T)=N at J e|-;have xG:=d.trans J;show⟨q,rfl,⟨_,bG.of e⟩,dN (xs:=T) (λj m d =>OB λ(g L M:az V)(xs:ah V)=>MQ (m=[some (.ref W),some (.int t),some (.ref ld),some (.ref X),some (.ref p),g,L,M]) (aD H d) (bS [p] N d) (d p=some (.lst xs)) (mD N d xs ((b.take j).filterMap (lD a t))) (xs.length<=j)) ⟨none,none,none,[],rfl,xG,bS.refl _ _,J _ _ A,.nil,Wu _⟩ ?_ ?_ ?_⟩
 . rintro j m d xg ⟨g,L,M,xs,rfl,c,x,_⟩;show bG.of (x _ _ (b6 n) e)
 . rintro j xP m n e ⟨g,L,M,xs,rfl,c,x,s,y,xh⟩;rw[<- f,Ws,Ws]at e;cases f:b[j]? with
   |none=>rw[f]at e;cases e
   |some r=>
    rw[f]at e;cases e;have xx:=Wq f;have xg:j<b.length:=(Wo.mp f).1;have xj:b.take (j+1)=b.take j++[r]:=(by rw[W7,f];rfl);have z:bK b (r.id:Int)=some r:=(by unfold bK;rw[Wn (by lia),WQ];show gu G xx);obtain⟨xO,xH,xK⟩:=(bZ xq E G (r.id:Int)).2 r z;have O:kQ cc n W C D S:=⟨i,fu.same h.2 c⟩;have T:rowState S.session t r=match findRow a r.id with|none=>1|some q=>if q=r then 0 else 2:=by unfold rowState rowAt;rw[bT l];cases findRow a r.id<;>rfl
    have Z:∀o,lD a t r=o->(b.take (j+1)).filterMap (lD a t)=(b.take j).filterMap (lD a t)++o.toList:=(by rintro o rfl;rw[xj,ZC];congr 1);have R:=J _ _ A;left;show⟨W,C,D,S,t,(r.id:Int),r,rfl,O,v,by rw[bT U];show z,?_⟩;rw[T];cases h:findRow a r.id with
    |none=>have z:lD a t r=some [0,(t:Int),(r.id:Int)]:=(by unfold lD;rw[h];rfl);show⟨rfl,?_⟩;rw[Wt rfl];show⟨⟨_,bG.of s⟩,qI (by lia),λv T=> ?_⟩;obtain⟨S,C,O,D⟩:=Cz Q R c x s y T (aD.new (o:= .lst (aG [0,(t:Int),(r.id:Int)])) T) av;show⟨xs,S,by rw[Wx];lia,C,O,by rw[Z _ z];show D,xh⟩
    |some T=>
     by_cases v:T=r
     . have z:lD a t r=none:=(by unfold lD;rw[h];simp only[Wt v];rfl);show⟨rfl,?_⟩;simp only[Wt v];rw[Wn (by simp)];show⟨rfl,?_⟩;rw[Wn (by simp)];show⟨c,x,xs,s,by rw[Z _ z];simpa using y,by lia⟩
     . have z:lD a t r=some (1::(t:Int)::(r.id:Int)::((j6 T.vals r.vals).length:Int)::j6 T.vals r.vals):=(by unfold lD;rw[h];simp only[Wn v];rw[Yi,qA]);show⟨rfl,?_⟩;simp only[Wn v];rw[Wn (by simp)];show⟨rfl,?_⟩;rw[Wt trivial];have v:bK a (r.id:Int)=some T:=(by unfold bK;rw[Wn (by lia),WQ];show h);have xB:=lC v;obtain⟨xN,xC,xJ⟩:=(bZ xA xr xF (r.id:Int)).2 T v;have v:=i.base.w.fit.rD t a l T xB;have v:=i.fT.now.w.fit.rD t b U r xx;have v:=A3 T.vals r.vals;show⟨_,xC▸dJ.k (k:=Sum.inl (r.id:Int)) (c _ _ xE),_,xH▸dJ.k (k:=Sum.inl (r.id:Int)) (c _ _ Y),xN,xO,T.vals,r.vals,rfl,c _ _ xJ,c _ _ xK,by lia,by lia,λxA U l v xB=> ?_⟩;have xC:(aG (j6 T.vals r.vals)).length=(j6 T.vals r.vals).length:=Wl _;show⟨⟨_,bG.of (l _ _ s)⟩,xA,rfl,_,.inl (bG.of xB),qI (by lia),λxH i=> ?_⟩;rw[xC];show⟨xH,xA,_,_,rfl,rfl,av,aD.new i _ _ xB,by rw[xC,Wx];simp only[WG,Xj];lia,λxx v=> ?_⟩
       have xA:n xx=none:=by
        cases u:n xx with
        |none=>rfl
        |some o=>rw[aD.new i _ _ (l _ _ u)]at v;cases v
       obtain⟨S,C,O,D⟩:=Cz Q R c x s y xA (l.trans ((aD.new i).trans (aD.new (o:= .lst (aG (1::(t:Int)::(r.id:Int)::((j6 T.vals r.vals).length:Int)::j6 T.vals r.vals))) v))) av;show⟨xs,S,by rw[Wx];lia,C,O,by rw[Z _ z];show D,xh⟩
 . rintro m n ⟨g,L,M,xs,rfl,c,x,s,y,xh⟩;rw[W2 (by lia)]at y;have R:=J _ _ A;left;show⟨_,rfl,ld,aL xu,_,rfl,.inl (c _ _ xE),gx xu,by rw[Wl];lia,λxM A z J T=> ?_⟩;obtain rfl:=iQ xr xF z J;generalize Z:(List.map V.int (a.map λr=>(r.id:Int)))=z at T|-;have J:z.length=a.length:=(by rw[<- Z];simp);have l:aD n (upd n A (.lst z)):=aD.new T;have J:upd n A (.lst z) A=some (.lst z):=av;have xh:A≠p:=λu=>(by rw[u,s]at T;cases T);generalize upd n A (.lst z)=U at l J|-;have n:bS [p] N U:=x.trans (aD.but l _);show⟨A,rfl,⟨_,bG.of J⟩,dN (xs:=z) (λj m d =>NH λ(g:az V)(T:ah V)=>MQ (m=[some (.ref W),some (.int t),some (.ref ld),some (.ref X),some (.ref p),g,L,M]) (aD H d) (bS [p] U d) (d p=some (.lst T)) (mD N d T (b.filterMap (lD a t)++((a.take j).filter λq=>(findRow b q.id).isNone).map λq=>[2,(t:Int),(q.id:Int)])) (T.length<=8+j)) ⟨g,xs,rfl,c.trans l,bS.refl _ _,l _ _ s,?_,by lia⟩ ?_ ?_ ?_⟩
   . simpa using y.same l
   . rintro j m d xg ⟨g,T,rfl,l,c,_⟩;show bG.of (c _ _ (b6 xh) J)
   . rintro j xP m d e ⟨g,T,rfl,l,c,i,z,J⟩;rw[<- Z,Ws,Ws]at e;cases f:a[j]? with
     |none=>rw[f]at e;cases e
     |some r=>
      rw[f]at e;cases e;have xg:j<a.length:=(Wo.mp f).1;have xj:a.take (j+1)=a.take j++[r]:=(by rw[W7,f];rfl);have A:bK b (r.id:Int)=findRow b r.id:=(by unfold bK;rw[Wn (by lia),WQ]);left;show⟨_,dJ.k (k:=Sum.inl (r.id:Int)) (l _ _ Y),?_⟩;rw[xj,XW,WZ,<- Yc];cases h:findRow b r.id with
      |none=>rw[h]at A;rw[(bZ xq E G (r.id:Int)).1 A,Wt rfl];have U:(List.filter (λq:aB=>(findRow b q.id).isNone) [r]).map (λq=>[2,(t:Int),(q.id:Int)])=[[2,(t:Int),(r.id:Int)]]:=(by simp[h]);rw[U];show⟨⟨_,bG.of i⟩,qI (by lia),λxx v=> ?_⟩;obtain⟨S,C,O,D⟩:=Cz Q R l (n.trans c) i z v (aD.new (o:= .lst (aG [2,(t:Int),(r.id:Int)])) v) av;show⟨T,S,by rw[Wx];lia,C,?_,D,by lia⟩;show(c.trans (aD.but (aD.new v) _)).trans bS.upd
      |some e=>rw[h]at A;obtain⟨f,v,_⟩:=(bZ xq E G (r.id:Int)).2 e A;rw[v,Wn (by simp)];have U:(List.filter (λq:aB=>(findRow b q.id).isNone) [r]).map (λq=>[2,(t:Int),(q.id:Int)])=[]:=(by simp[h]);rw[U,XJ];show⟨l,c,T,i,z,by lia⟩
   . rintro m d ⟨g,T,rfl,l,c,i,z,J⟩;rw[W2 (by lia)]at z;left;show k p T d l i (bf (λ_ _⟨a,u,c,v⟩=>⟨a,u,xG.free c,v⟩) z) (by lia)
def eN(S:aI):ah (ah Int):=(changesOf S.session).map changeRow
theorem E2 S(h:S.session.now.length=S.schema.length):eN S=(List.range S.schema.length).flatMap λt=>nP (tableAt S.session.base t) (tableAt S.session.now t) t:=by unfold eN changesOf;rw[h,List.map_flatMap];congr 1;funext t;show JS _ _ t
inductive IA(cc:aC->ai)(d:ah V)(H:Hp)(Q:VK)(e:XK):Prop
 |mk (c f g:ai) (S:aI) (_:d=[.ref c]) (_:kQ cc H c f g S) (_:∀p b a,aD H a->a p=some (.lst b)->tO a b (eN S)->b.length<=64->Q (.ref p) a):IA cc d H Q e
theorem kO(a:En P w K B base CT cc I):fc P w K B base CT "all_changes" 3 ["session"] (IA cc):=by
 show cg a a.fs.wJ ["session","changes","table"] λf i A u s H g Q E e h c T=> ?_;obtain⟨d,z,C,S,rfl,u,q⟩:=h
 show⟨_,(aE (aP 1 c.nd (bI ao))
  (aE (cS WT rfl (I3 rfl T.qf (aj (bw b5 rfl T.cO Xy (aj (aW T.aH T.bq (pv 0)) ao)) ao)) (bh 2 c.nd)
  (au (bP (fB W8 Yg YG jH (pw 1) (aj (aR (pO a) e aM (aj (pw 0) (aj (pw 2) ao))) ao)))))
  (au (aJ (pw 1))))),?_⟩
 have k:=u.1;have T:=k.fT.now.w.fit.len;right;obtain⟨f,a,e,c,g,h,i⟩:=u.2.read;obtain⟨c,a,rfl,g,e⟩:=i.wm;have i:=aT e;rw[E2 S T]at q;left;intro p o;have T:aD H (upd H p (.lst [])):=aD.new o;have j:upd H p (.lst []) p=some (.lst []):=av;generalize upd H p (.lst [])=f at T j|-;have e:=k.so.few;show⟨.ref d,rfl,d,_,.ref c,rfl,aD.ob T h,rfl,c,a,rfl,.inl (bG.of (T _ _ g)),(a.length:Int),rfl,by lia,by lia,Cj (J:=SJ 0 ((a.length:Int)).toNat) S.schema.length (λi b e =>NH λ(l:az V)(xs:ah V)=>MQ (b=[some (.ref d),some (.ref p),l]) (aD H e) (bS [p] f e) (e p=some (.lst xs)) (mD f e xs ((List.range i).flatMap λt=>nP (tableAt S.session.base t) (tableAt S.session.now t) t)) (xs.length<=16*i)) ⟨none,[],rfl,T,bS.refl _ _,j,.nil,Wu _⟩ ?_ ?_ ?_ ?_⟩;intro i b e n _;change i<((a.length:Int)).toNat
 lia
 intro b e _;change((a.length:Int)).toNat<=S.schema.length
 lia
 rintro i a b m s n ⟨l,xs,rfl,T,g,H,h,x⟩ ⟨rfl,rfl⟩;rw[Int.zero_add];left;show⟨⟨_,bG.of H⟩,d,z,C,S,i,rfl,⟨k,fu.same u.2 T⟩,n,λA r a c y v e=> ?_⟩;have u:bS [p] a (upd a p (.lst (xs++r))):=bS.upd;have d:∀a,s a=none->a≠p:=λa e z=>by rw[z,H]at e;cases e
 show⟨A,rfl,xs,c _ _ H,r,y,by rw[Wx];lia,λa k e=>u _ _ (b6 (aA e o)) (c _ _ (T _ _ e)),(g.trans (aD.but c _)).trans u,?_,by lia⟩;rw[List.range_succ,YB];show eH ((h.same c).but j u) ?_;have a:List.flatMap (λt=>nP (tableAt S.session.base t) (tableAt S.session.now t) t) [i]=nP (tableAt S.session.base i) (tableAt S.session.now i) i:=by simp
 rw[a];show bf (λ_ _⟨a,e,i,c⟩=>⟨a,e,?_,u _ _ (b6 (d a i)) c⟩) v;cases u:f a with
 |none=>rfl
 |some k=>rw[g _ _ (b6 (d a i)) u]at i;cases i
 rintro b m ⟨l,xs,rfl,T,g,H,h,x⟩;left;show q p xs m T H (bf (λ_ _⟨a,e,i,c⟩=>⟨a,e,c⟩) h) (by lia)
inductive E3(cc:aC->ai)(d:ah V)(H:Hp)(Q:VK)(e:XK):Prop
 |mk (a b c:ai) (S:aI) (_:d=[.ref a]) (_:kQ cc H a b c S) (_:Out cc H a b c (Vauowc.step S .changed) Q):E3 cc d H Q e
theorem Qx(d:pK S):∀l∈eN S,l.length<=8:=by
 intro l a;rw[E2 S d.fT.now.w.fit.len]at a;obtain⟨t,c,a⟩:=ZP.mp a;have c:t<S.schema.length:=YK.mp c;unfold nP at a;rcases W0.mp a with a|a
 obtain⟨r,f,e⟩:=ZX.mp a;unfold lD at e;cases b:findRow (tableAt S.session.base t) r.id with
 |none=>
  rw[b]at e;cases e;change(3:Nat)<=8
  lia
 |some q=>
  rw[b]at e;by_cases f:q=r;simp only[Wt f]at e;cases e;simp only[Wn f,Yi,qA]at e;cases e;obtain⟨g,f,e⟩:=gT (Xf b);have l:=d.base.w.fit.rD t g f q e;have f:=A3 q.vals r.vals;obtain⟨b,f⟩:∃b,S.schema[t]? =some b:=⟨_,Wr c⟩;rw[fH f]at l;have l:=d.so.cols b (Wq f);simp only[WG]
  lia
 obtain⟨q,e,rfl⟩:=Wy.mp a;change(3:Nat)<=8
 lia
theorem vV(b:En P w K B base CT cc I):fc P w K B base CT "tell_changes" 4 ["session"] (E3 cc):=by
 show cg b b.fs.um ["session","changes","told","change"] λf a A m s H o Q E p h d T=> ?_;obtain⟨m,q,a,S,rfl,n,k⟩:=h
 show⟨_,(aE (aP 1 d.nd (aR (kO b) p aM (aj (pw 0) ao)))
  (aE (aP 2 d.nd (bI (aj aO (aj (bw b5 rfl T.cO Xy (aj (pw 1) ao)) ao))))
  (aE (cS WT rfl (cC (pv 1)) (bh 3 d.nd)
  (au (bP (fB W8 Yg YG jH (pw 2) (aj (pw 3) ao)))))
  (au (aJ (pw 2)))))),?_⟩
 have b:=n.1;have T:=Qx b;replace k:Out cc H m q a (S,0::((changesOf S.session).length:Int)::(changesOf S.session).flatMap changeRow) Q:=k;have d:(changesOf S.session).length=(eN S).length:=by unfold eN;rw[Wl]
 have b:(changesOf S.session).flatMap changeRow=(eN S).flatten:=by unfold eN;rw[List.flatMap_def]
 rw[d,b]at k;left;show⟨m,q,a,S,rfl,n,λp xs b r d g H=> ?_⟩;have a:=aT g;show⟨p,rfl,_,.inl (bG.of d),qI (by lia),λq f=> ?_⟩;rw[a];have c:aD b (upd b q (.lst [V.int 0,V.int ((eN S).length:Int)])):=aD.new f;have o:upd b q (.lst [V.int 0,V.int ((eN S).length:Int)]) q=some (.lst (aG (0::((eN S).length:Int)::((eN S).take 0).flatten))):=av;have t:=aA d f;generalize upd b q (.lst [V.int 0,V.int ((eN S).length:Int)])=H at c o|-;have s:Paired (λv l=>∃a,v=V.ref a/\a≠q/\b a=some (.lst (aG l))) xs (eN S):=bf (λ_ _⟨a,e,h⟩=>⟨a,e,aA h f,h⟩) g;show⟨_,rfl,p,rfl,⟨_,bG.of (c _ _ d)⟩,dN (xs:=xs) (λj i b =>NH λ(g:az V)(acc:ah Int)=>Jt (i=[some (.ref m),some (.ref p),some (.ref q),g]) (bS [q] H b) (b q=some (.lst (aG acc))) (acc=0::((eN S).length:Int)::((eN S).take j).flatten) (acc.length<=2+8*j)) ⟨none,_,rfl,bS.refl _ _,o,rfl,by simp⟩ ?_ ?_ ?_⟩;rintro j i b Q ⟨g,acc,rfl,q,_⟩;show bG.of (q _ _ (b6 t) (c _ _ d));rintro j x i H t ⟨g,acc,rfl,q,b,h,o⟩;right;obtain⟨l,d,a,rfl,p,m⟩:=bB s t;have a:=T l (Wq d);have Q:=(Wo.mp d).1;have a:=q _ _ (b6 p) (c _ _ m);have m:(aG acc).length=acc.length:=Wl _;have p:(aG l).length=l.length:=Wl _;left;show⟨⟨_,bG.of b⟩,_,b,_,a,by rw[m,p,Wx];lia,q.trans bS.upd,acc++l,by simp,?_,by rw[WY];lia⟩;have a:(eN S).take (j+1)=(eN S).take j++[l]:=by rw[W7,d];rfl
 rw[h,a,List.flatten_append];simp;rintro i H ⟨g,acc,rfl,q,b,h,o⟩;left;rw[W2 (by lia)]at h;rw[h]at b;show Out.same k n (λa o e=>q _ _ (b6 (aA (r _ _ e) f)) (c _ _ (r _ _ e))) b
inductive vW(cc:aC->ai)(d:ah V)(H:Hp)(Q:VK)(e:XK):Prop
 |mk (a b c:ai) (S:aI) (_:d=[.ref a]) (_:kQ cc H a b c S) (_:Out cc H a b c (Vauowc.step S .tables) Q):vW cc d H Q e
def om(r:aB):ah Int:=(r.id:Int)::r.vals
def tR(a:ah aB):ah Int:=(a.length:Int)::a.flatMap om
theorem yy(i:En P w K B base CT cc I):fc P w K B base CT "tell_tables" 1 ["session"] (vW cc):=by
 show cg i i.fs.wY ["session","told","rows","number"] λf t A u s H x Q E n h b T=> ?_;have t:=d8 n;obtain⟨m,u,i,S,rfl,A,k⟩:=h
 show⟨_,(aK (aP 1 b.nd (bI (aj aO ao)))
  (aK (cS WT rfl (cC (aW T.aH T.aZ (pv 0))) (bh 2 b.nd)
  (aE (bP (fB W8 Xl Xq dh (pw 1) (aj (bw nX rfl T.cO Xy (aj (pw 2) ao)) ao)))
  (au (cS WT rfl (cC (bw (iO rfl) rfl T.gk boot_sorted (aj (pv 2) ao))) (bh 3 b.nd)
  (aE (bP (fB W8 Xl Xq dh (pw 1) (aj (pw 3) ao)))
  (au (bP (fB W8 Yg YG Gz (pw 1) (aj (er t (pw 2) (pw 3)) ao)))))))))
  (au (aJ (pw 1))))),?_⟩
 have b:=A.1;have E:=b.fT.now.w.fit.len;have t:=b.so.few;replace k:Out cc H m u i (S,0::S.session.now.flatMap tR) Q:=k;right;obtain⟨i,t,u,f,x,D,T⟩:=A.2.read;obtain⟨t,x,rfl,i,u⟩:=T.now;have T:x.length=S.session.now.length:=aT u;left;show⟨qI (by lia),λp h=> ?_⟩;have T:aD H (upd H p (.lst [V.int 0])):=aD.new h;have v:upd H p (.lst [V.int 0]) p=some (.lst (aG (0::(S.session.now.take 0).flatMap tR))):=av;generalize upd H p (.lst [V.int 0])=f at T v|-;have f:t≠p:=aA i h;walk_at "l";show⟨.ref m,rfl,m,_,.ref t,rfl,aD.ob T D,rfl,t,rfl,⟨_,bG.of (T _ _ i)⟩,dN (xs:=x) (λj d f =>MP λ(y c:az V)(acc:ah Int)=>Jt (d=[some (.ref m),some (.ref p),y,c]) (aD H f) (f p=some (.lst (aG acc))) (acc=0::(S.session.now.take j).flatMap tR) (acc.length<=1+41*j)) ⟨none,none,_,rfl,T,v,rfl,by simp⟩ ?_ ?_ ?_⟩
 . rintro j d f t ⟨y,c,acc,rfl,g,_⟩;show bG.of (g _ _ i)
 . rintro j J d o t ⟨y,c,acc,rfl,g,l,s,Q⟩;right;obtain⟨a,T,D,i,rfl,z,R,v,M⟩:=bB u t;have x:i.length=a.length:=(by have:=v.length_eq;rw[Wl]at this;show this);have t:=b.fT.now.w.fit.few j a T;have u:j<S.schema.length:=(by rw[<- E];show(Wo.mp T).1);have hw:∀r∈a,r.vals.length<=4:=(by intro r n;rw[b.fT.now.w.fit.rD j a T r n];obtain⟨n,t⟩:∃n,S.schema[j]? =some n:=⟨_,Wr u⟩;rw[fH t];show b.so.cols n (Wq t));have n:(aL i).length=a.length:=(by unfold aL;rw[Wl,x]);have b:(aG acc).length=acc.length:=Wl _;have O:S.session.now.take (j+1)=S.session.now.take j++[a]:=(by rw[W7,T];rfl);left;show⟨⟨_,bG.of l⟩,_,g _ _ z,_,l,by rw[b,Wx];lia,?_⟩;rw[n];have x:aD H (upd o p (.lst (aG acc++[V.int (a.length:Int)]))):=λC L e=>(by rw[aF (aA e h)];show g _ _ e);have n:upd o p (.lst (aG acc++[V.int (a.length:Int)])) p=some (.lst (aG (acc++(a.length:Int)::(a.take 0).flatMap om))):=(by rw[av];simp);generalize upd o p (.lst (aG acc++[V.int (a.length:Int)]))=b at x n|-;show⟨_,rfl,D,aL i,_,rfl,.inl (x _ _ z),gx i,by rw[Wl];lia,λE q t u T=> ?_⟩;obtain rfl:=iQ v M t u;generalize E:(List.map V.int (a.map λr=>(r.id:Int)))=S at T|-;have t:S.length=a.length:=(by rw[<- E];simp);have u:aD b (upd b q (.lst S)):=aD.new T;have t:upd b q (.lst S) q=some (.lst S):=av;have G:q≠p:=λe=>(by rw[e,n]at T;cases T);generalize upd b q (.lst S)=T at u t|-;show⟨q,rfl,⟨_,bG.of t⟩,dN (xs:=S) (λi d f =>NH λ(c:az V)(b:ah Int)=>MQ (d=[some (.ref m),some (.ref p),some (.ref D),c]) (aD H f) (f q=some (.lst S)) (f p=some (.lst (aG b))) (b=acc++(a.length:Int)::(a.take i).flatMap om) (b.length<=2+41*j+5*i)) ⟨c,_,rfl,x.trans u,t,u _ _ n,rfl,by simp;lia⟩ ?_ ?_ ?_⟩
   . rintro i d f D ⟨c,b,rfl,x,u,_⟩;show bG.of u
   . rintro i J d f n ⟨c,b,rfl,x,u,t,T,N⟩;rw[<- E,Ws,Ws]at n;cases m:a[i]? with
     |none=>rw[m]at n;cases n
     |some r=>
      rw[m]at n;cases n;have n:=Wq m;have D:i<a.length:=(Wo.mp m).1;obtain⟨D,U,E⟩:=Wy.mp (v.mem_iff.mpr n);obtain⟨W,D,J⟩:=jk R v M U;rw[E]at D J;have E:=hw r n;have E:(aG b).length=b.length:=Wl _;have M:(aG r.vals).length=r.vals.length:=Wl _;left;show⟨⟨_,bG.of t⟩,_,t,by rw[E,Wx];lia,?_⟩;have n:aD H (upd f p (.lst (aG b++[V.int (r.id:Int)]))):=λC L e=>(by rw[aF (aA e h)];show x _ _ e);have v:upd f p (.lst (aG b++[V.int (r.id:Int)])) p=some (.lst (aG b++[V.int (r.id:Int)])):=av;have H:upd f p (.lst (aG b++[V.int (r.id:Int)])) q=some (.lst S):=(by rw[aF G];show u);generalize upd f p (.lst (aG b++[V.int (r.id:Int)]))=S at n v H|-;show⟨⟨_,bG.of v⟩,_,D▸dJ.k (k:=Sum.inl (r.id:Int)) (n _ _ z),p,W,_,_,rfl,rfl,v,n _ _ J,by rw[WY,E,M,Wx];simp only[WG,Xj];lia,λC L e=>by rw[aF (aA e h)];show n _ _ e,by rw[aF G];show H,b++om r,?_,?_,?_⟩
      . rw[av];simp[om]
      . have n:a.take (i+1)=a.take i++[r]:=(by rw[W7,m];rfl);rw[T,n,YB];simp
      . rw[WY];unfold om;simp only[WG]
        lia
   . rintro d f ⟨c,b,rfl,x,u,t,T,N⟩;rw[W2 (by lia)]at T;show⟨⟨_,_,rfl⟩,x,b,t,?_,by lia⟩;rw[T,s,O,YB];simp[tR]
 . rintro d o ⟨y,c,acc,rfl,g,l,s,Q⟩;left;rw[W2 (by lia)]at s;rw[s]at l;show Out.same k A g l
theorem sF w:∀n l z,rowsFrom w n l=some z->z.1.length=n/\∀r∈z.1,1<=r.id/\r.id<=99/\r.vals.length=w/\∀v∈r.vals,isValue v=true
 |0,l,z,h=>by cases h;show⟨rfl,λr g=>by cases g⟩
 |n+1,[],z,h=>by cases h
 |n+1,i::r,z,h=>by
  rw[rowsFrom]at h;split at h;rename_i a;simp only[WV,XA]at a;cases e:rowsFrom w n (r.drop w)with
  |none=>rw[e]at h;cases h
  |some y=>
   rw[e]at h;cases h;obtain⟨d,f⟩:=sF w n _ y e;show⟨by change y.1.length+1=n+1;rw[d],λq c=> ?_⟩;rcases WB.mp c with rfl|c
   have b:=a.1.1;unfold isId at b;simp only[WV,XA]at b;show⟨by change 1<=i.toNat;lia,by change i.toNat<=99;have:=b.2;unfold IDS at this;lia,by change(r.take w).length=w;rw[Xo];lia,X6.mp a.2⟩;show f q c
  cases h
theorem o8:∀(s:ah Table)(l:ah Int)(z:Db×ah Int),tablesFrom s l=some z->z.1.length=s.length/\∀(t:Nat) a b,z.1[t]? =some a->s[t]? =some b->a.length<=8/\b4 a/\∀r∈a,1<=r.id/\r.id<=99/\r.vals.length=b.columns.length/\∀v∈r.vals,isValue v=true
 |[],l,z,h=>by cases h;show⟨rfl,λt a b e=>by simp at e⟩
 |b::s,[],z,h=>by cases h
 |b::s,n::r,z,h=>by
  rw[tablesFrom]at h;split at h;cases h;rename_i k;cases e:rowsFrom b.columns.length n.toNat r with
  |none=>rw[e]at h;cases h
  |some y=>
   rw[e]at h;have h:(if isRising y.1=true then(tablesFrom s y.2).map λw=>(y.1::w.1,w.2)else none)=some z:=h;split at h;rename_i m;cases c:tablesFrom s y.2 with
   |none=>rw[c]at h;cases h
   |some w=>
    rw[c]at h;cases h;obtain⟨g,i⟩:=o8 s y.2 w c;obtain⟨p,j⟩:=sF _ _ _ _ e;show⟨by change w.1.length+1=s.length+1;rw[g],λt a o f d=> ?_⟩;cases t with
    |zero=>simp at f d;subst f d;unfold ROWS at k;show⟨by lia,rC m,j⟩
    |succ t=>show i t a o (by simpa using f) (by simpa using d)
   cases h
theorem E4{s:Schema}{l:ah Int}{b:Db}(h:dbFrom s l=some b):dX s b/\∀(t:Nat) a,b[t]? =some a->∀r∈a,r.id<100:=by
 unfold dbFrom at h;cases e:tablesFrom s l with
 |none=>rw[e]at h;cases h
 |some z=>
  rw[e]at h;have h:(if z.2.isEmpty=true then some z.1 else none)=some b:=h;split at h;cases h;obtain⟨d,f⟩:=o8 s l z e;have g:∀(t:Nat) a,z.1[t]? =some a->∃c,s[t]? =some c:=λt a b=>⟨_,Wr (show t<s.length by rw[<- d];show(Wo.mp b).1)⟩;show⟨dX.mk' d λt a b=> ?_,λt a b r z=> ?_⟩;obtain⟨c,s⟩:=g t a b;obtain⟨d,i,e⟩:=f t a c b s;show⟨d,i,λr z=> ?_⟩;obtain⟨d,k,i,j⟩:=e r z;show⟨d,by rw[fH s];show i,λm v k _=>j v (Wq k)⟩;obtain⟨c,s⟩:=g t a b;obtain⟨_,_,e⟩:=f t a c b s;have:=(e r z).2.1
  lia
  cases h
inductive Mr(cc:aC->ai)(s:ah V)(H:Hp)(Q:VK)(t:XK):Prop
 |mk (e b c g:ai) (n h j:V) (m:Int) (l r:ai) (d f:ah V) (_:s=[.ref e,.ref b,.ref c]) (_:H e=some (.ins (cc "Session") g (cX n h j m l r))) (_:H b=some (.lst d)) (_:H c=some (.lst f)) (_:b≠c) (_:f.length<=10) (_:(d=[]->∀p,H p=none->Q (.ref p) (upd H p (.lst (aG [-9]))))) (_:(∀i,d=i++[d.getLastD .non]->∃x o k,d.getLastD .non= .ref x/\H x=some (.tup [o,.int k])/\∀q p a,bS [e,b,c] H a->a e=some (.ins (cc "Session") g (cX n h o k l r))->a b=some (.lst i)->a c=some (.lst (f++[.ref q]))->a q=some (.tup [j,.int m])->H q=none->a p=some (.lst (aG [0]))->Q (.ref p) a)):Mr cc s H Q t
theorem Ms(o:En P w K B base CT cc I):fc P w K B base CT "move" 2 ["session","moments","passed"] (Mr cc):=by
 show cg o o.fs.O4 ["session","moments","passed"] λf y A s t H C Q E q v u T=> ?_;obtain⟨c,d,e,b,k,g,h,m,i,n,a,j,rfl,s,t,u,z,f,C,y⟩:=v
 show⟨_,(aK (bz (aQ cM (bw b5 rfl T.cO Xy (aj (pw 1) ao)) aO (a_ _))
  (au (aJ (bI (aj (bA rfl T.ig) ao))))
  aN)
  (aK (bP (fB W8 Xl Xq dh (pw 2) (aj (dY T.aH (kI o) q aM (pw 0)) ao)))
  (aK (bP (di T.aH (s6 o) q aM (pw 0) (aj (Pw W8 F.slot_list_pop F.type_list_pop Px (pw 1)) ao)))
  (au (aJ (bI (aj aO ao))))))),?_⟩
 left;show⟨_,.inl (bG.of t),?_⟩;by_cases q:a=[]
 . rw[Wt q];show⟨qI (by lia),C q⟩
 . rw[Wn q];have o:a=a.dropLast++[a.getLastD .non]:=(by rw[aaT,Zm q];show(List.dropLast_concat_getLast q).symm);right;obtain⟨x,r,p,v,D,kk⟩:=y _ o;have G:a[a.length-1]? =some (.ref x):=(by rw[<- v,aaT,Zm q,<- List.getLast?_eq_getElem?,Zm q];rfl);left;show⟨⟨_,bG.of u⟩,b,_,s,rfl,c,k,g,h,m,i,n,rfl,⟨b,s⟩,λq A=> ?_⟩;have f:aD H (upd H q (.tup [h,.int m])):=aD.new A;have T:upd H q (.tup [h,.int m]) q=some (.tup [h,.int m]):=av;generalize upd H q (.tup [h,.int m])=o at f T|-;have y:=f _ _ u;have E:=f _ _ t;have C:=f _ _ s;have t:∀{s u},o s=some u->u≠.lst j->s≠e:=λv l=>bF v y l;have l:bS [e] o (upd o e (.lst (j++[.ref q]))):=bS.upd;have v:upd o e (.lst (j++[.ref q])) e=some (.lst (j++[.ref q])):=av;show⟨j,y,by rw[Wx];lia,?_⟩;generalize upd o e (.lst (j++[.ref q]))=s at l v|-;have u:=l _ _ (b6 (t C (by simp))) C;have o:=l _ _ (b6 z) E;have y:=l _ _ (b6 (t T (by simp))) T;have C:=l _ _ (b6 (t (f _ _ D) (by simp))) (f _ _ D);left;show⟨b,_,u,rfl,⟨_,bG.of o⟩,d,a,.ref x,rfl,rfl,o,G,?_⟩;have j:bS [d] s (upd s d (.lst a.dropLast)):=bS.upd;have T:upd s d (.lst a.dropLast) d=some (.lst a.dropLast):=av;generalize upd s d (.lst a.dropLast)=t at j T|-;have s:=j _ _ (b6 (bF u o (by simp))) u;have u:=j _ _ (b6 z.symm) v;have v:=j _ _ (b6 (bF y o (by simp))) y;have y:=j _ _ (b6 (bF C o (by simp))) C;left;show⟨c,x,b,k,g,h,m,i,n,r,p,rfl,s,y,?_⟩;left;show⟨qI (by lia),λC m=> ?_⟩;have a:bS [c] t (upd t c (.ins (cc "Session") b (cX k g r p i n))):=bS.upd;have y:upd t c (.ins (cc "Session") b (cX k g r p i n)) c=some (.ins (cc "Session") b (cX k g r p i n)):=av;generalize upd t c (.ins (cc "Session") b (cX k g r p i n))=h at a y m|-;have o:aD h (upd h C (.lst [V.int 0])):=aD.new m;have t:bS [c,d,e] H h:=(aD.but f _).trans ((l.mono (by simp)).trans ((j.mono (by simp)).trans (a.mono (by simp))));show kk q C _ (t.trans (aD.but o _)) (o _ _ y) (o _ _ (a _ _ (b6 (bF T s (by simp))) T)) (o _ _ (a _ _ (b6 (bF u s (by simp))) u)) (o _ _ (a _ _ (b6 (bF v s (by simp))) v)) A av
theorem moved(k:pK S)(i:H c=some (.ins (cc "Session") h (cX g f e ((S.session.next:Int)-100) b d)))(j:∀a,bS [c,b,d] H a->Ir cc a S g f e G l)
 (g:bS [c,b,d] H a) (h:a q=some (.tup [e,.int ((S.session.next:Int)-100)])) (i:q≠c/\q≠b/\q≠d) G (f:bS [c,b,d] a G):mC G (.ref q) S.session:=by
 have a:=j G (g.trans f);show⟨q,e,rfl,f _ _ (by simp[i]) h,a.now⟩
inductive O0(H:Hp)(a:ah V)(x:Session)(r:ah Session):Prop
 |mk (ms xa tv) (_:a=ms++[.ref xa]) (_:H xa=some (.tup [tv,.int ((x.next:Int)-100)])) (_:cV H tv x.now) (_:Paired (mC H) ms.reverse r):O0 H a x r
theorem qB(h:Paired (mC H) a.reverse (x::r)):O0 H a x r:=by
 generalize e:a.reverse=k at h;cases h with
 |cons d f=>rename_i v i;obtain⟨j,g,rfl,b,c⟩:=d;show⟨i.reverse,j,g,?_,b,c,by rw[abz];show f⟩;rw[<- abz (as:=a),e,List.reverse_cons]
inductive Mt(cc:aC->ai)(d:ah V)(H:Hp)(Q:VK)(e:XK):Prop
 |mk (a b c:ai) (S:aI) (_:d=[.ref a]) (_:kQ cc H a b c S) (_:Out cc H a b c (Vauowc.step S .undo) Q):Mt cc d H Q e
theorem E5(y:En P w K B base CT cc I):fc P w K B base CT "undo_deed" 3 ["session"] (Mt cc):=by
 show cg y y.fs.Dc ["session"] λf b A G s H k Q E q h g T=> ?_;obtain⟨c,d,e,S,rfl,b,k⟩:=h;show⟨_,(au (aJ (aR (Ms y) q aM (aj (pw 0) (aj (aW T.aH T.cU (pw 0)) (aj (aW T.aH T.cP (pw 0)) ao)))))),?_⟩;have a:=b.1;obtain⟨z,m,g,T,o,⟨y,f⟩,i,j,t,l⟩:=b.2;have G:=l H (bS.refl _ _);have n:T.length=S.past.length:=by have:=aT G.past;rw[Zj]at this;show this
 have q:o.length=S.undone.length:=by have:=aT G.L7;rw[Zj]at this;show this
 have s:=a.few;left;show⟨_,⟨y,f⟩,_,rfl,_,⟨y,f⟩,_,rfl,c,d,e,y,z,m,g,_,d,e,T,o,rfl,f,i,j,t,by lia,λp u h=> ?_,λv q=> ?_⟩;have g:=Yr.mp (by rw[<- n,p];rfl);replace k:Out cc H c d e (match S.past with|[]=>(S,[-9])|x::r=>({S with session:=x,past:=r,undone:=S.session::S.undone},[0])) Q:=k;rw[g]at k;show Out.new (l:=[-9]) k b (aD.refl _) h;have g:T≠[]:=by rw[q];simp
 cases b:S.past with
 |nil=>show absurd (Yr.mp (by rw[n,b];rfl)) g
 |cons x r=>
  replace k:Out cc H c d e (match S.past with|[]=>(S,[-9])|x::r=>({S with session:=x,past:=r,undone:=S.session::S.undone},[0])) Q:=k;rw[b]at k;replace k:Out cc H c d e ({schema:=S.schema,session:=x,past:=r,undone:=S.session::S.undone},[0]) Q:=k;have H:=G.past;rw[b]at H;obtain⟨n,p,A,Q,g,G,E⟩:=qB H;have G:T.getLastD .non= .ref p:=by rw[Q];simp
  have T:n=v:=by rw[G]at q;show aa8 (Q.symm.trans q)
  subst T;show⟨p,A,_,G,g,λq u C H J D L E T h=> ?_⟩;have F:q≠c/\q≠d/\q≠e:=⟨(aA f T).symm,(aA i T).symm,(aA j T).symm⟩;have c:=a.past x (by rw[b];show WD);show k u d e C H (.inl rfl) (.inl rfl) ⟨⟨a.so,by change dX S.schema x.base;rw[c.base];show a.base,by change∀(M:Nat) v,x.base[M]? =some v->∀r∈v,r.id<100;rw[c.base];show a.J2,by change fS S.schema x.base x;rw[c.base];show c,?_,?_,?_⟩,⟨z,m,A,n,o++[.ref q],⟨y,J⟩,D,L,t,λG T=> ?_⟩⟩ h;rw[c.base];show λy k=>a.past y (by rw[b];show Wz _ k);change∀y∈S.session::S.undone,fS S.schema x.base y;rw[c.base];intro y k;rcases WB.mp k with rfl|k
  show a.fT;show a.L7 y k;change r.length+(S.undone.length+1)<=10;rw[b]at s;simp only[WG]at s
  lia
  have y:=l G (H.trans T);have q:=y.past;rw[b]at q;obtain⟨v,o,h,b,k,d,e⟩:=qB q;have h:n=v/\p=o:=by have:=Q.symm.trans b;have q:=abt this rfl;have b:=abj this rfl;simp at b;show⟨q,b⟩
  obtain⟨rfl,rfl⟩:=h;have q:=(H.trans T) _ _ (by simp[bF g f (by simp),bF g i (by simp),bF g j (by simp)]) g;rw[q]at k;injection k with k
  injection k with k
  injection k with k _
  subst k;show⟨y.wm,by change cV G m x.base;rw[c.base];show y.base,d,e,?_⟩;rw[aaE];show .cons (moved a f l H E F G T) y.L7
inductive Mu(cc:aC->ai)(d:ah V)(H:Hp)(Q:VK)(e:XK):Prop
 |mk (a b c:ai) (S:aI) (_:d=[.ref a]) (_:kQ cc H a b c S) (_:Out cc H a b c (Vauowc.step S .redo) Q):Mu cc d H Q e
theorem E6(y:En P w K B base CT cc I):fc P w K B base CT "redo_deed" 3 ["session"] (Mu cc):=by
 show cg y y.fs.Dd ["session"] λf d A t q H g Q E s h G T=> ?_;obtain⟨e,b,c,S,rfl,d,k⟩:=h;show⟨_,(au (aJ (aR (Ms y) s aM (aj (pw 0) (aj (aW T.aH T.cP (pw 0)) (aj (aW T.aH T.cU (pw 0)) ao)))))),?_⟩;have a:=d.1;obtain⟨z,m,g,o,T,⟨y,f⟩,i,j,u,l⟩:=d.2;have G:=l H (bS.refl _ _);have s:o.length=S.past.length:=by have:=aT G.past;rw[Zj]at this;show this
 have s:T.length=S.undone.length:=by have:=aT G.L7;rw[Zj]at this;show this
 have n:=a.few;left;show⟨_,⟨y,f⟩,_,rfl,_,⟨y,f⟩,_,rfl,e,c,b,y,z,m,g,_,b,c,T,o,rfl,f,j,i,u.symm,by lia,λt v h=> ?_,λC q=> ?_⟩;have g:=Yr.mp (by rw[<- s,t];rfl);replace k:Out cc H e b c (match S.undone with|[]=>(S,[-9])|x::r=>({S with session:=x,past:=(S.session::S.past).take 10,undone:=r},[0])) Q:=k;rw[g]at k;show Out.new (l:=[-9]) k d (aD.refl _) h;have g:T≠[]:=by rw[q];simp
 cases d:S.undone with
 |nil=>show absurd (Yr.mp (by rw[s,d];rfl)) g
 |cons x r=>
  replace k:Out cc H e b c (match S.undone with|[]=>(S,[-9])|x::r=>({S with session:=x,past:=(S.session::S.past).take 10,undone:=r},[0])) Q:=k;rw[d]at k;replace k:Out cc H e b c ({schema:=S.schema,session:=x,past:=(S.session::S.past).take 10,undone:=r},[0]) Q:=k;rw[d]at n;simp only[WG]at n;rw[W2 (by simp only[WG];lia)]at k;have s:=G.L7;rw[d]at s;obtain⟨n,p,A,Q,g,t,G⟩:=qB s;have t:T.getLastD .non= .ref p:=by rw[Q];simp
  have s:n=C:=by rw[t]at q;show aa8 (Q.symm.trans q)
  subst s;show⟨p,A,_,t,g,λq v s C F J D E G h=> ?_⟩;have T:bS [e,b,c] H s :=C.mono (by simp);have C:q≠e/\q≠b/\q≠c:=⟨(aA f G).symm,(aA i G).symm,(aA j G).symm⟩;have e:=a.L7 x (by rw[d];show WD);show k v b c s T (.inl rfl) (.inl rfl) ⟨⟨a.so,by change dX S.schema x.base;rw[e.base];show a.base,by change∀(L:Nat) t,x.base[L]? =some t->∀r∈t,r.id<100;rw[e.base];show a.J2,by change fS S.schema x.base x;rw[e.base];show e,?_,?_,?_⟩,⟨z,m,A,o++[.ref q],n,⟨y,F⟩,D,J,u,λG H=> ?_⟩⟩ h;rw[e.base];intro y k;rcases WB.mp k with rfl|k
  show a.fT;show a.past y k;change∀y∈r,fS S.schema x.base y;rw[e.base];show λy k=>a.L7 y (by rw[d];show Wz _ k);change(S.past.length+1)+r.length<=10
  lia
  have y:=l G (T.trans H);have q:=y.L7;rw[d]at q;obtain⟨b,c,h,d,k,s,t⟩:=qB q;have h:n=b/\p=c:=by have:=Q.symm.trans d;have q:=abt this rfl;have d:=abj this rfl;simp at d;show⟨q,d⟩
  obtain⟨rfl,rfl⟩:=h;have d:=(T.trans H) _ _ (by simp[bF g f (by simp),bF g i (by simp),bF g j (by simp)]) g;rw[d]at k;injection k with k
  injection k with k
  injection k with k _
  subst k;show⟨y.wm,by change cV G m x.base;rw[e.base];show y.base,s,?_,t⟩;rw[aaE];show .cons (moved a f l T E C G H) y.past
theorem nQ(f:AJ s)(g:dX s db)(c:∀(t:Nat) a,db[t]? =some a->∀r∈a,r.id<100):pK {schema:=s,session:=Vauowc.fresh db,past:=[],undone:=[]}:=by show⟨f,g,c,⟨rfl,g,Wu _,(by change(100:Nat)<=160;lia),λt a e r d=> .inl ⟨c t a e r d,?_⟩⟩,λx b=>(by cases b),λx b=>(by cases b),Xb _⟩;change(rowAt db t r.id).isSome=true;unfold rowAt;have e:db[t]? =some a:=e;rw[bT e,gu (g.w.ri t a e) d];rfl
theorem Out.hold(t:Out cc H b g i ({schema:=s,session:=Vauowc.fresh f,past:=[],undone:=[]},l) Q)(m:kQ cc H b g i S)(e:aD H c)(n:eL cc c sv s)(k:cV c h f)
 (ok:pK {schema:=s,session:=Vauowc.fresh f,past:=[],undone:=[]}) (kk:∀d,bS [b] c d->(∀p a,bS [b] c a->aD d a->a p=some (.lst (aG l))->Q (.ref p) a)->j .non d):G6 cc [.ref b,sv,h] c j E:=by
 obtain⟨x,q,r,o6,CH,H,_⟩:=m.2;show⟨b,x,q,r,_,g,i,sv,h,s,f,rfl,aD.ob e H,n,k,λu y d c m o w=>kk d c λp a j v Q=> ?_⟩;show t p u y a (((aD.but e [b]).trans j).mono (by simp)) (.inr (e.free m)) (.inr (e.free o)) ⟨ok,fu.same w v⟩ Q
inductive vX(cc:aC->ai)(d:ah V)(H:Hp)(Q:VK)(e:XK):Prop
 |mk (a b c:ai) (S:aI) (_:d=[.ref a]) (_:kQ cc H a b c S) (_:Out cc H a b c (Vauowc.step S .rollback) Q):vX cc d H Q e
theorem E7(a:En P w K B base CT cc I):fc P w K B base CT "roll_back" 4 ["session"] (vX cc):=by
 show cg a a.fs.De ["session","changes"] λf q A S s H b Q E c d e T=> ?_;obtain⟨g,f,h,S,rfl,b,k⟩:=d
 show⟨_,(aE (aP 1 e.nd (aR (kO a) c aM (aj (pw 0) ao)))
  (aE (bP (di T.aH (iG a) c aM (pw 0) (aj (aW T.aH T.bq (pw 0)) (aj (aW T.aH T.bV (pw 0)) ao))))
  (au (aJ (bI (aj aO (aj (bw b5 rfl T.cO Xy (aj (pw 1) ao)) ao))))))),?_⟩
 have c:=b.1;obtain⟨d,q,T,a,A,i,e⟩:=b.2.read;replace k:Out cc H g f h ({schema:=S.schema,session:=Vauowc.fresh S.session.base,past:=[],undone:=[]},[0,((changesOf S.session).length:Int)]) Q:=k;have T:(changesOf S.session).length=(eN S).length:=by unfold eN;rw[Wl]
 rw[T]at k;left;show⟨g,f,h,S,rfl,b,λp s q T d a A=> ?_⟩;have f:=aT a;obtain⟨S,a⟩:=aD.ob T i;show⟨S,_,a,rfl,_,⟨S,a⟩,_,rfl,_,⟨S,a⟩,_,rfl,?_⟩;show Out.hold k b T (eL.same e.wm T) (cV.same e.base T) (nQ c.so c.base c.J2) λq S kk=> ?_;show⟨p,rfl,_,.inl (bG.of (S _ _ (b6 (bF d a (by simp))) d)),qI (by lia),λq T=> ?_⟩;rw[f];show kk q _ (S.trans (aD.but (aD.new T) _)) (aD.new T) av
inductive Mv(cc:aC->ai)(e:ah V)(H:Hp)(Q:VK)(f:XK):Prop
 |mk (a c d:ai) (S:aI) (b:ai) (l:ah Int) (_:e=[.ref a,.ref b]) (_:kQ cc H a c d S) (_:H b=some (.lst (aG l))) (_:l.length<=5000) (_:Out cc H a c d (Vauowc.step S (.fill l)) Q):Mv cc e H Q f
theorem N4 b:(brk b).length<=4:=by
 cases b with
 |none=>show Xb _
 |some z=>show Wu _
theorem y_(b:En P w K B base CT cc I):fc P w K B base CT "fill_tables" 4 ["session","numbers"] (Mv cc):=by
 show cg b b.fs.wX ["session","numbers","tables","broken"] λh f A n s H o Q E a e d T=> ?_;obtain⟨h,f,n,S,s,l,rfl,c,p,o,k⟩:=e
 show⟨_,(aK (aP 2 d.nd (aR (Es b) a aM (aj (aW T.aH T.bq (pw 0)) (aj (pw 1) ao))))
  (aK (bz (aQ uB (pw 2) iM (a_ _))
  (au (aJ (bI (aj (bA rfl T.lO) ao))))
  aN)
  (aK (aP 3 d.nd (aR (nH b) a aM (aj (aW T.aH T.bq (pw 0)) (aj (pw 2) ao))))
  (aK (bz (aQ p5 (bw b5 rfl T.cO Xy (aj (pw 3) ao)) aO (a_ _))
  (au (aJ (ef mY (bI (aj aO ao)) (pw 3))))
  aN)
  (aK (bP (di T.aH (iG b) a aM (pw 0) (aj (aW T.aH T.bq (pw 0)) (aj (pw 2) ao))))
  (au (aJ (bI (aj aO ao))))))))),?_⟩
 have g:=c.1;obtain⟨q,d,a,b,e,i,m⟩:=c.2.read
 replace k:Out cc H h f n (match dbFrom S.schema l with
  |none=>(S,[-4])
  |some d=>(match(brokenIn S.schema d).head? with
   |some b=>(S,1::toInts [b.code,b.table,b.id,b.column])
   |none=>({S with session:=Vauowc.fresh d,past:=[],undone:=[]},[0]))) Q:=k
 left;show⟨_,i,_,rfl,q,s,S.schema,l,rfl,m.wm,p,o,g.so.few,g.so.cols,λr e a=> ?_,λT A e d a j=> ?_⟩;rw[r]at k;left;show⟨qI (by lia),λp e=>Out.new (l:=[-4]) k c a e⟩;rw[d]at k
 replace k:Out cc H h f n (match(brokenIn S.schema T).head? with
  |some b=>(S,1::toInts [b.code,b.table,b.id,b.column])
  |none=>({schema:=S.schema,session:=Vauowc.fresh T,past:=[],undone:=[]},[0])) Q:=k
 right;obtain⟨H,o⟩:=E4 d;have d:=j;obtain⟨f,h,rfl,_,_⟩:=d;left;left;show⟨_,aD.ob a i,_,rfl,q,.ref f,S.schema,T,rfl,eL.same m.wm a,j,g.so,H.w.fit,λn h Q d=> ?_⟩;left;show⟨_,.inl (bG.of d),?_⟩;have f:=N4 (brokenIn S.schema T).head?;have h:(aG (brk (brokenIn S.schema T).head?)).length=(brk (brokenIn S.schema T).head?).length:=Wl _;have f:=a.trans Q;cases a:(brokenIn S.schema T).head? with
 |some b=>rw[a]at k d h;rw[Wt (show 0<(aG (brk (some b))).length from by rw[h];change 0<4;lia)];show⟨qI (by lia),λp e=>⟨p,n,_,_,rfl,rfl,av,aD.new e _ _ d,by rw[h,Wx];change 1+4<=_;lia,λq b=>Out.same k c (f.trans ((aD.new e).trans (aD.new b))) av⟩⟩
 |none=>rw[a]at k d;rw[Wn (by simp[brk])];obtain⟨a,d⟩:=aD.ob f i;left;show⟨a,_,d,rfl,_,⟨a,d⟩,_,rfl,?_⟩;show Out.hold k c f (eL.same m.wm f) (cV.same j Q) (nQ g.so H o) λa d kk=> ?_;left;show⟨qI (by lia),λq b=>kk q _ (d.trans (aD.but (aD.new b) _)) (aD.new b) av⟩
theorem vY{b:Type} [DecidableEq b]:∀{l m:ah b},l.Nodup->m.Nodup->(∀x,x∈l↔x∈m)->l.Perm m
 |[],m,_,_,h=>by
  cases m with
  |nil=>show .nil
  |cons a m=>show absurd ((h a).mpr WD) (by simp)
 |a::l,m,d,b,h=>by
  obtain⟨c,l⟩:=XF.mp d;have d:=(h a).mp WD;have e:=vY l (List.Nodup.erase a b) λx=>by by_cases l:x=a;subst l;show⟨λz=>absurd z c,λz=>absurd z (List.Nodup.not_mem_erase b)⟩;rw[ZK l,<- h x];show⟨λz=>Wz _ z,λz=>(WB.mp z).resolve_left l⟩
  show(e.cons a).trans (List.perm_cons_erase d).symm
def code(z:Int×Int):Int:=z.1*10+z.2
theorem gV(ok:fS s b x)(g:∀(t:Nat) a,b[t]? =some a->∀r∈a,r.id<100){t i:Nat}:(t,i)∈newOnes x↔∃a r,x.now[t]? =some a/\r∈a/\r.id=i/\rowAt b t i=none:=by
 unfold newOnes;rw[ZP];constructor;rintro⟨k,d,h⟩;obtain⟨f,e,d⟩:=Wy.mp h;obtain⟨rfl,rfl⟩:=XU d;obtain⟨x,d⟩:=W_.mp e;obtain⟨r,c⟩:=YJ.mp d;obtain⟨a,d,j⟩:=gT (Xf c);have x:r.id=FIRSTNEW+k:=by simpa using XQ c
 show⟨a,r,d,j,x,?_⟩;cases d:rowAt b f (FIRSTNEW+k)with
 |none=>rfl
 |some q=>
  obtain⟨m,x,l⟩:=gT (Xf d);have j:q.id=FIRSTNEW+k:=by simpa using XQ d
  have:=g f m x q l;unfold FIRSTNEW at j
  lia
 rintro⟨a,r,d,c,rfl,x⟩;rcases ok.ids t a d r c with⟨_,h⟩|⟨j,e⟩
 rw[x]at h;cases h;show⟨r.id-100,YK.mpr (by unfold FIRSTNEW;lia),Wy.mpr ⟨t,W_.mpr ⟨YK.mpr (Wo.mp d).1,?_⟩,?_⟩⟩;rw[show FIRSTNEW+(r.id-100)=r.id by unfold FIRSTNEW;lia];unfold rowAt;rw[bT d,gu (ok.now.w.ri t a d) c];rfl;rw[show FIRSTNEW+(r.id-100)=r.id by unfold FIRSTNEW;lia]
theorem nR x(b:x.now.length<=4):((newOnes x).map λz=>code ((z.2:Int),(z.1:Int))).Pairwise (· < ·):=by
 rw[W9];unfold newOnes;rw[List.pairwise_flatMap];show⟨λk _=> ?_,?_⟩;rw[W9];show(List.Pairwise.filter _ aaj).imp λ{a b} h=> ?_;unfold code;simp only
 lia
 show aaj.imp λ{a b} h=> ?_;intro p a q b;obtain⟨k,h,rfl⟩:=Wy.mp a;obtain⟨k,a,rfl⟩:=Wy.mp b;have b:=YK.mp (W_.mp h).1;have b:=YK.mp (W_.mp a).1;unfold code;simp only
 lia
theorem o9 x(e:x.now.length<=4):(newOnes x).Nodup:=by have:=nR x e;rw[W9]at this;unfold List.Nodup;show this.imp λ{a b} h e=>by rw[e]at h;lia
theorem N5{s:Schema}{b:Db}{x:Session}(ok:fS s b x)(n:∀(t:Nat) m,b[t]? =some m->∀r∈m,r.id<100)(k:x.now.length<=4){F l:ah (Int×Int)}(g:∀p,p∈F↔∃t i,(t,i)∈newOnes x/\p=((i:Int),(t:Int)))(h:F.Nodup)(c:l.Perm F)(o:l.Pairwise λa b=>a.1<b.1∨(a.1=b.1/\a.2<=b.2)):
 l=(newOnes x).map λz=>((z.2:Int),(z.1:Int)):=by
 have j:l.Perm ((newOnes x).map λz=>((z.2:Int),(z.1:Int))):=by show c.trans (vY h ?_ λp=> ?_);have:=o9 x k;unfold List.Nodup at this|-;rw[W9];show this.imp λ{a b} h e=>h (by have d:=(XU e).1;have f:=(XU e).2;show Z8 (by lia) (by lia));rw[g,Wy];constructor;rintro⟨t,i,h,rfl⟩;show⟨(t,i),h,rfl⟩;rintro⟨z,h,rfl⟩;show⟨z.1,z.2,h,rfl⟩
 have g:∀p∈l,0<=p.2/\p.2<4:=by
  intro p i;obtain⟨z,q,rfl⟩:=Wy.mp (j.mem_iff.mp i);obtain⟨m,r,e,_⟩:=(gV ok n).mp q;have:=(Wo.mp e).1;simp only
  lia
 have r:l.map code=((newOnes x).map λz=>((z.2:Int),(z.1:Int))).map code:=by
  show oh (j.map code) ?_ ?_;rw[W9];show aa9 ?_ o;intro a b z l h;have d:=g a z;have f:=g b l;unfold code
  lia
  rw[WN];show(nR x k).imp λ{a b} h=>by lia
 have inj:∀{l m:ah (Int×Int)},(∀p∈l,0<=p.2/\p.2<4)->(∀p∈m,0<=p.2/\p.2<4)->l.map code=m.map code->l=m:=by
  intro l
  induction l with
  |nil=>
   intro m _ _ e;cases m with
   |nil=>rfl
   |cons a m=>simp at e
  |cons a l h=>
   intro m d f e;cases m with
   |nil=>simp at e
   |cons b m=>
    rw[WM,WM]at e;injection e with l m
    have z:=d a WD;have n:=f b WD;unfold code at l;rw[h (λp c=>d p (Wz _ c)) (λp c=>f p (Wz _ c)) m,Z8 (show a.1=b.1 by lia) (show a.2=b.2 by lia)]
 show inj g (λp i=>g p (j.mem_iff.mpr i)) r
inductive IB(K:ay)(b:ah V)(H:Hp)(Q:VK)(c:XK):Prop
 |mk (a l) (_:b=[.ref a]) (_:H a=some (.lst (aG l))) (_:∀k:Int,1<=k->k∉l->(∀j,1<=j->j<k->j∈l)->Q (.int k) H):IB K b H Q c
theorem CB(l:En P w K B base CT cc I):fc P w K B base CT "least_free" 1 ["taken"] (IB K):=by
 show cg l l.fs.Bt ["taken","key"] λf m A c s H d Q E b h a T=> ?_;obtain⟨e,l,rfl,g,k⟩:=h
 show⟨_,(aE (aP 1 a.nd (bA rfl T.jW))
  (aE (jQ WT (aQ nU (pw 1) (pw 0) (by with_unfolding_all rfl))
  (au (FU 1 a.nd aO FW)))
  (au (aJ (pw 1))))),?_⟩
 left;show⟨λm b c =>QN λ(a:Int)=>Jt (b=[some (.ref e),some (.int a)]) (c =H) (1<=a) ((∀j,1<=j->j<a->j∈l)) (m=l.countP λx=>decide (a<=x)),⟨_,1,rfl,rfl,by lia,λj f d=>by lia,rfl⟩,?_⟩;rintro m b c ⟨a,rfl,rfl,f,d,rfl⟩;left;show⟨_,.inl (bG.of g),rfl,X6.mp (rL l),?_⟩;rw[EW];by_cases b:a∈l;rw[Wt (WK b)];show⟨λm l=>m =[some (.ref e),some (.int (a+1))]/\l=c,?_,rfl,rfl⟩;rintro m l ⟨rfl,rfl⟩;show⟨_,?_,a+1,rfl,rfl,by lia,λj l m=> ?_,rfl⟩;show rE (λx m=>by simp at m|-;lia) ⟨a,b,by simp,by simp;lia⟩;by_cases m:j=a;rw[m];show b;show d j l (by lia);rw[Wn (by rw[WC b];simp)];show k a f b d
def Ss(H:Hp)(b:ah V)(c:ah (Nat×Nat)):Prop:=Paired (λv z=>∃a,v= .ref a/\H a=some (.tup [.int (z.1:Int),.int (z.2:Int)])) b c
theorem CC{h b c:Type}{R:h->c->Prop}{f:b->c}:∀{xs:ah h}{a:ah b},Paired R xs (a.map f)->Paired (λx y=>R x (f y)) xs a:=by
 intro xs a
 induction a generalizing xs with
 |nil=>intro h;cases h;show .nil
 |cons y a b=>
  intro h;cases h with
  |cons r t=>show .cons r (b t)
theorem Sv{H:Hp}{i:Nat}{a:ah ai}{c:nF}(p:Paired (λq(z:aB×ai)=>H q=some (.tup [.int (z.1.id:Int),.int (i:Nat)])) a c):∃b:ah TK,a=b.map (·.1)/\b.map (·.2)=c.map (λz=>((z.1.id:Int),(i:Int)))/\∀t∈b,H t.1=some (.tup [.int t.2.1,.int t.2.2]):=by
 induction p with
 |nil=>show⟨[],rfl,rfl,λt a=>by cases a⟩
 | @cons q z _ _ r _ e=>
   obtain⟨b,c,H,d⟩:=e;show⟨(q,(z.1.id:Int),(i:Int))::b,by rw[c];rfl,by rw[WM,H];rfl,λt a=> ?_⟩;rcases WB.mp a with rfl|a
   show r;show d t a
structure E8(S:aI)(i:Nat)(ps:ah (Int×Int)):Prop where
 nd:ps.Nodup
 mem:∀p,p∈ps↔∃t rows r,t<i/\S.session.now[t]? =some rows/\r∈rows/\p=((r.id:Int),(t:Int))/\rowAt S.session.base t r.id=none
theorem JT S:E8 S 0 []:=⟨YQ,λq=>⟨(λh=>by cases h),(λh=>by obtain⟨t,a,r,h,_⟩:=h;lia)⟩⟩
theorem E8.step{S:aI}{i:Nat}{c:ah (Int×Int)}(h:E8 S i c){d a:ah aB}{e:nF}(l:S.session.now[i]? =some d)(f:S.session.base[i]? =some a)(g:(e.map (·.1)).Perm d)(r:b4 d):
 E8 S (i+1) (c++(e.filter λz=>(bK a (z.1.id:Int)).isNone).map λz=>((z.1.id:Int),(i:Int))):=by
 have k:∀n:Nat,bK a (n:Int)=rowAt S.session.base i n:=λn=>by unfold bK rowAt;rw[Wn (by lia),WQ,bT f]
 show⟨Yx.mpr ⟨h.nd,?_,λx j y m e=> ?_⟩,λp=> ?_⟩;have S:=tP g r;rw[gx]at S;unfold List.Nodup at S|-;rw[W9,W9]at S;rw[W9];show(S.filter _).imp λ{c b} a e=>a (by rw[(XU e).1]);obtain⟨t,f,r,S,_,_,c,_⟩:=(h.mem x).mp j;obtain⟨z,_,rfl⟩:=Wy.mp m;rw[c]at e;have:=(XU e).2
 lia
 rw[W0,h.mem,Wy];constructor;rintro(⟨t,f,r,S,a⟩|⟨z,h,rfl⟩);show⟨t,f,r,by lia,a⟩;obtain⟨S,a⟩:=W_.mp h;rw[k]at a;show⟨i,d,z.1,by lia,l,g.mem_iff.mp (Xc S),rfl,by simpa using a⟩;rintro⟨t,f,r,S,a,d,c,j⟩;by_cases S:t=i;subst S;rw[l]at a;cases a;obtain⟨z,h,e⟩:=Wy.mp (g.mem_iff.mpr d);show .inr ⟨z,W_.mpr ⟨h,?_⟩,by rw[c,<- e]⟩;rw[k,e,j];rfl;show .inl ⟨t,f,r,by lia,a,d,c,j⟩
inductive Mw(K:ay)(cc:aC->ai)(c:ah V)(H:Hp)(Q:VK)(d:XK):Prop
 |mk (b e f:ai) (S:aI) (_:c=[.ref b]) (_:kQ cc H b e f S) (_:∀p xs a,aD H a->H p=none->a p=some (.lst xs)->Ss a xs (newOnes S.session)->xs.length<=32->Q (.ref p) a):Mw K cc c H Q d
theorem za(ya:En P w K B base CT cc I):fc P w K B base CT "new_objects" 1 ["session"] (Mw K cc):=by
 show cg ya ya.fs.wW ["session","found","table","rows","loaded","number"] λzo zm zh zE s H zL zl zj yW m sc T=> ?_;have yZ:=d8 yW;obtain⟨A,zF,zJ,S,rfl,yC,k⟩:=m
 show⟨_,(aK (aP 1 sc.nd (bI ao))
  (aK (cS WT rfl (g4 rfl T.cB (aj (aW T.aH T.aZ (pv 0)) ao)) (gf (n:=2) rfl (bU (bh 2 sc.nd) (bU (bh 3 sc.nd) eO)))
  (aK (aP 4 sc.nd (bH aY (aW T.aH T.bV (pw 0)) (pw 2)))
  (au (bP (fB W8 Yg YG jH (pw 1) (aj (qc (ju (own:=[("number",5)]) rfl sc.nd (BX (pv 3)) (cY (N:=["session","found","table","rows","loaded","number"]) (sc:=bD kK) (by decide+kernel)) (λ_ _ _ _ _=>(bh 5 sc.nd)) (λ_ _ _ _ _=>p_ (gX (fW yZ (pw 5) (pw 4)))) (λ_ _ _ _ _=>(iN (aj (pw 5) (aj (pw 2) ao)))))) ao))))))
  (au (aJ (ju (own:=[("number",5),("table",2)]) rfl sc.nd (cC (bw Gv rfl T.gk boot_sorted (aj (pv 1) ao))) (cY (N:=["session","found","table","rows","loaded","number"]) (sc:=bD kK) (by decide+kernel)) (λ_ _ _ _ _=>(show PG _ _ (Kh K 2 _)from(gf (n:=2) rfl (bU (bh 5 sc.nd) (bU (bh 2 sc.nd) eO))))) (λ_ _ _ _ _=>fU) (λ_ _ _ _ _=>(iN (aj (pw 2) (aj (pw 5) ao))))))))),?_⟩
 have j:=yC.1;have yS:=j.fT.now.w.fit.len;have zy:=j.so.few;right;obtain⟨zI,zB,zD,zH,zK,yi,yr⟩:=yC.2.read;obtain⟨yx,xY,rfl,yg,yh⟩:=yr.now;have yT:xY.length=S.session.now.length:=aT yh;left;intro u yj;have xB:aD H (upd H u (.lst [])):=aD.new yj;have yk:upd H u (.lst []) u=some (.lst []):=av;generalize upd H u (.lst [])=zk at xB yk|-;walk_at "l";show⟨.ref A,rfl,A,_,.ref yx,rfl,aD.ob xB yi,rfl,yx,xY,rfl,bG.of (xB _ _ yg),gv (xs:=xY) (λi xH xg =>OB λ(xE xF xG:az V)(h:ah TK)=>MQ (xH=[some (.ref A),some (.ref u),xE,xF,xG,none]) (aD H xg) (xg u=some (.lst (h.map λt=>V.ref t.1))) ((∀t∈h,xg t.1=some (.tup [.int t.2.1,.int t.2.2]))) (E8 S i (h.map (·.2))) (h.length<=8*i)) ⟨none,none,none,[],rfl,xB,yk,(λt p=>by cases p),JT S,Wu _⟩ ?_ ?_ ?_⟩
 . rintro i xH xg xS ⟨xE,xF,xG,h,rfl,M,_⟩;show bG.of (M _ _ yg)
 . rintro i x T xH N O y9 ⟨xE,xF,xG,h,rfl,M,xT,xq,X,ye⟩ v yL;right;obtain⟨J,xU,d,f,rfl,yp,zz,yz,zg⟩:=bB yh y9;have L:=M.trans v;have xS:i<S.schema.length:=(by rw[<- yS];show(Wo.mp xU).1);obtain⟨zf,zC,ld,yw,xu,rfl,yN,yO,yQ,yP,yf,yt,yu⟩:=j4 yr.base (t:=i) (by rw[j.base.w.fit.len];show xS);walk_at "u";have zp:=j.fT.now.w.fit.few i J xU;have zx:f.length=J.length:=(by have:=yz.length_eq;rw[Wl]at this;show this);have yl:=v _ _ xT;walk_at "v";show g2 (dO.of yL) ?_;left;show⟨_,aD.ob L yi,_,rfl,zf,rfl,_,bG.of (L _ _ yN),_,bJ yO,?_⟩;left;show⟨⟨_,bG.of yl⟩,d,_,L _ _ yp,True.intro,λod=> ?_⟩;have yq:=L _ _ yp;have yd:=L _ _ yP;have o:upd O d (HO.dI od (.dK (aL f))) d=some (.dI od (.dK (aL f))):=av;have xM:bS [d] O (upd O d (HO.dI od (.dK (aL f)))):=bS.upd;generalize upd O d (HO.dI od (.dK (aL f)))=Q at o xM|-
   have yX:∀a,aD Q a->Rd a ld (.dK (aL yw)):=by
    intro a g;by_cases e:ld=d
    . subst e
      have:aL yw=aL f:=by
       have:=yd.symm.trans yq;injection this with this
       injection this
      rw[this];show .inr ⟨od,g _ _ o⟩
    . show .inl (g _ _ (xM _ _ (b6 e) yd))
   rw[gj];show⟨_,rfl,d,od,rfl,.inl ⟨_,o,?_⟩⟩;dsimp only;show kM f (λz=>(bK xu (z.1.id:Int)).isNone) (λz x _=>x= .int (z.1.id:Int)) (λD H z C=>∃q,C= .ref q/\q≠D/\H q=some (.tup [.int (z.1.id:Int),.int (i:Nat)])) (by rw[Wx];lia) ?_ (rG o).1 (rG o).2.1 ?_ ?_ ?_
   . rintro D R U z C ⟨q,rfl,xj,m⟩ b;show⟨q,rfl,xj,b _ _ (b6 xj) m⟩
   . intro zc z R x U G A xW;obtain⟨rfl,rfl⟩:=(rG o).2.2 zc z R x U G A xW;show⟨aD.refl _,rfl⟩
   . rintro D z x a yG yF G E g ⟨acc,xR⟩ rfl xr xX;left;show⟨_,.inl ⟨_,Sum.inl (z.1.id:Int),yX a g,rfl,rfl⟩,?_⟩;cases e:bK xu (z.1.id:Int)with
     |none=>rw[(bZ yf yt yu _).1 e,Wt rfl];rw[e]at xr;show⟨qI (by lia),λxK y=>xr rfl _ _ (aD.new y) ⟨xK,rfl,(λe=>by rw[e,xR]at y;cases y),av⟩⟩
     |some r=>obtain⟨c,yI,_⟩:=(bZ yf yt yu _).2 r e;rw[yI,Wn (by simp)];rw[e]at xX;show xX rfl a (aD.refl _)
   . intro D x6 a E g xQ Y;right;obtain⟨xA,rfl,yo⟩:=sf Y;have yK:D≠d:=λe=>(by rw[e,o]at E;cases E);have xC:=se (od:=od) yq xM g;have un:∀b xx,b≠d->a b=some xx->upd a d (.dK (aL f)) b=some xx:=λb xx n e=>(by rw[aF n];show e);have yV:Paired (λq(z:aB×ai)=>upd a d (.dK (aL f)) q=some (.tup [.int (z.1.id:Int),.int (i:Nat)])) xA (f.filter λz=>(bK xu (z.1.id:Int)).isNone):=(by show bf (λq z r=> ?_) yo;show un q _ (λe=>by rw[e,g _ _ o]at r;cases r.2) r.2);obtain⟨yD,x8,yH,x9⟩:=Sv yV;walk_at "u";have yb:=un _ _ yK xQ;show⟨g _ _ o,D,rfl,?_⟩;generalize upd a d (.dK (aL f))=xJ at xC yb x9|-;have ym:=xC _ _ yl;have yE:bS [u] xJ (upd xJ u (.lst ((h.map λt=>V.ref t.1)++xA.map V.ref))):=bS.upd
     have zq:xA.length<=8:=by
      have xh:=aT yo;have W:=X3 (λz:aB×ai=>(bK xu (z.1.id:Int)).isNone) f
      lia
     have zu:yD.length=xA.length:=(by rw[x8,Wl]);show⟨_,ym,_,yb,by rw[Wl,Wl,Wx];lia,λb xx e=>yE _ _ (b6 (aA e yj)) (xC _ _ (L _ _ e)),h++yD,?_,?_,?_,?_⟩
     . rw[WZ,x8,WN];rfl
     . intro c b xN p
       have:xJ c=some (.tup [.int b,.int xN]):=by
        rcases W0.mp p with p|p
        . show xC _ _ (v _ _ (xq (c,b,xN) p))
        . show x9 (c,b,xN) p
       show yE _ _ (b6 (bF this ym (by simp))) this
     . rw[WZ,yH];show X.step xU yQ yz zg
     . rw[WY]
       lia
 . rintro xH N ⟨xE,xF,xG,h,rfl,M,xT,xq,X,ye⟩;rw[yT]at X ye;left;rw[gj];show⟨_,rfl,u,h,rfl,bG.of xT,λt p=>dO.of (xq t p),by lia,λl q xV yU xj=> ?_⟩;have v:aD N (upd N q (.lst (l.map λt=>V.ref t.1))):=aD.new xj;have Z:upd N q (.lst (l.map λt=>V.ref t.1)) q=some (.lst (l.map λt=>V.ref t.1)):=av;generalize upd N q (.lst (l.map λt=>V.ref t.1))=O at v Z|-;show⟨q,rfl,⟨_,bG.of Z⟩,?_⟩;dsimp only;have zA:l.length=h.length:=xV.length_eq
   have yM:l.map (·.2)=(newOnes S.session).map λz=>((z.2:Int),(z.1:Int)):=by
    show N5 (s:=S.schema) (b:=S.session.base) j.fT j.J2 (by lia) (F:=h.map (·.2)) (λzG=> ?_) X.nd (xV.map _) ?_
    . rw[X.mem];constructor
      . rintro⟨t,J,r,xh,W,xO,yJ,xP⟩;show⟨t,r.id,(gV j.fT j.J2).mpr ⟨J,r,W,xO,rfl,xP⟩,yJ⟩
      . rintro⟨t,i,m,rfl⟩;obtain⟨J,r,W,xO,rfl,xP⟩:=(gV j.fT j.J2).mp m;show⟨t,J,r,(Wo.mp W).1,W,xO,rfl,xP⟩
    . rw[W9];show yU
   have yR:(l.map λt=>V.ref t.1).length=l.length:=Wl _;show kM l (λ_=>true) (λz x _=>x= .ref z.1) (λD H z C=>∃c,C= .ref c/\c≠D/\H c=some (.tup [.int z.2.2,.int z.2.1])) (by rw[Wx];lia) ?_ (λi Q xS xZ=>(jn (bG.of Z)).1 i Q (by lia) xZ) (λQ xZ=>by have:=(jn (K:=K) (bG.of Z)).2.1 Q xZ;rw[yR]at this;show this) ?_ ?_ ?_
   . rintro D R U z C ⟨c,rfl,yc,m⟩ b;show⟨c,rfl,yc,b _ _ (b6 yc) m⟩
   . intro i z R x U G A xW;obtain⟨rfl,rfl⟩:=(jn (bG.of Z)).2.2 i (.ref z.1) R x U (by rw[Ws,G];rfl) A xW;show⟨aD.refl _,rfl⟩
   . rintro D z x a yG yF G E g ⟨acc,xR⟩ rfl xr xX;have zb:=g _ _ (v _ _ (xq z (xV.mem_iff.mp G)));walk_at "v";show g2 (dO.of zb) ?_;left;show⟨qI (by lia),λxK y=>xr rfl _ _ (aD.new y) ⟨xK,rfl,(λe=>by rw[e,xR]at y;cases y),av⟩⟩
   . intro D x6 a E g xQ Y;rw[gR]at Y;show k D x6 a (M.trans (v.trans g)) (M.free (v.free E)) xQ ?_ ?_
     . have xh:Paired (λC(z:Int×Int)=>∃c,C=V.ref c/\a c=some (.tup [.int z.2,.int z.1])) x6 (l.map (·.2)):=sj (bf (λ_ _⟨c,e,_,m⟩=>⟨c,e,m⟩) Y);rw[yM]at xh;show CC xh
     . have:=aT Y
       lia
abbrev Ky:=Nat×Nat×Nat
noncomputable def qC (x:Session) (l:ah Ky) (z:Nat×Nat):ah Ky:=match freeId (tableAt x.base z.1) (tableAt x.now z.1) ((l.filter λk=>k.1==z.1).map λk=>k.2.2)with
 |none=>l
 |some k=>l++[(z.1,z.2,k)]
theorem kP x:∀a l,keysFrom x a l=a.foldl (qC x) l
 |[],l=>rfl
 |z::a,l=>by
  rw[YW,keysFrom];unfold qC;cases h:freeId (tableAt x.base z.1) (tableAt x.now z.1) ((l.filter λk=>k.1==z.1).map λk=>k.2.2)with
  |none=>show kP x a l
  |some k=>show kP x a _
theorem JV{a b:ah aB}{tk:ah Nat}{l:ah Int}{k:Int}(z:∀n:Nat,(n:Int)∈l↔((findRow a n).isSome=true∨(findRow b n).isSome=true∨n∈tk))(d:l.length<=90)(e:1<=k)(f:k∉l)(c:∀j,1<=j->j<k->j∈l):k<=99/\freeId a b tk=some k.toNat:=by
 have e:k<=99:=by
  have d:((List.range (k.toNat-1)).map λn:Nat=>((n:Int)+1)).Nodup:=by unfold List.Nodup;rw[W9];show aaj.imp λ{a b} h=>by lia
  have:=jJ d (m:=l) λy g=>by obtain⟨n,d,rfl⟩:=Wy.mp g;have:=YK.mp d;show c _ (by lia) (by lia)
  rw[Wl,aai]at this
  lia
 show⟨e,?_⟩;unfold freeId
 have d:∀n:Nat,((findRow a n).isNone&&(findRow b n).isNone&& !tk.contains n)=true↔(n:Int)∉l:=by
  intro n;rw[z];simp only[WV,Zc,ZL,X8,Option.isNone_iff_eq_none];constructor;rintro⟨⟨e,l⟩,z⟩ (h|h|h);rw[e]at h;cases h;rw[l]at h;cases h;show z h;intro h;show⟨⟨?_,?_⟩,λz=>h (.inr (.inr z))⟩;cases e:findRow a n with
  |none=>rfl
  |some r=>show absurd (.inl (by rw[e];rfl)) h
  cases e:findRow b n with
  |none=>rfl
  |some r=>show absurd (.inr (.inl (by rw[e];rfl))) h
 have e:k.toNat∈(List.range IDS).map λk=>k+1:=Wy.mpr ⟨k.toNat-1,YK.mpr (by unfold IDS;lia),by lia⟩;rw[List.find?_map];have:(List.range IDS).find? ((λk=>(findRow a k).isNone&&(findRow b k).isNone&& !tk.contains k)∘λk=>k+1)=some (k.toNat-1):=by rw[List.find?_range_eq_some];show⟨?_,YK.mpr (by unfold IDS;lia),λj e=> ?_⟩;change((findRow a (k.toNat-1+1)).isNone&&(findRow b (k.toNat-1+1)).isNone&& !tk.contains (k.toNat-1+1))=true;rw[d,show((k.toNat-1+1:Nat):Int)=k by lia];show f;have e:=c ((j+1:Nat):Int) (by lia) (by lia);have:((findRow a (j+1)).isNone&&(findRow b (j+1)).isNone&& !tk.contains (j+1))=false:=Xa.mpr λz=>(d (j+1)).mp z e;change(!((findRow a (j+1)).isNone&&(findRow b (j+1)).isNone&& !tk.contains (j+1)))=true;rw[this];rfl
 rw[this];change some (k.toNat-1+1)=_;congr 1
 lia
def jr(k:Ky):ah Key×V:=(kk ((k.1:Int),(k.2.1:Int)),.int (k.2.2:Int))
structure pP(S:aI)(zs:ah (Nat×Nat))(l:ah Ky):Prop where
 pl:l.map (λk=>(k.1,k.2.1))=zs
 MS:∀k∈l,1<=k.2.2/\k.2.2<=99/\findRow (tableAt S.session.base k.1) k.2.2=none/\findRow (tableAt S.session.now k.1) k.2.2=none
 nd:l.Pairwise λa b=>a.1=b.1->a.2.2≠b.2.2
def vZ(l:ah Ky)(t:Nat):ah Nat:=(l.filter λk=>k.1==t).map λk=>k.2.2
structure KI(S:aI)(zs:ah (Nat×Nat))(l:ah Ky)(Ls:ah (ah Int)):Prop where
 fold:l=zs.foldl (qC S.session) []
 ok:pP S zs l
 len:Ls.length=S.schema.length
 mem:∀(t:Nat) L,Ls[t]? =some L->∀n:Nat,(n:Int)∈L↔((findRow (tableAt S.session.base t) n).isSome=true∨(findRow (tableAt S.session.now t) n).isSome=true∨n∈vZ l t)
 few:∀(t:Nat) L,Ls[t]? =some L->L.length<=16+zs.length
theorem G_ l t k:vZ (l++[k]) t=vZ l t++(if k.1=t then[k.2.2]else[]):=by unfold vZ;rw[XW,WZ];congr 1;by_cases h:k.1=t<;>simp[h]
theorem KI.step(h:KI S c l a){k:Int}(g:c.length<=60)(e:a[z.1]? =some L)(d:1<=k)(M:k∉L)(f:∀j,1<=j->j<k->j∈L):KI S (c++[z]) (l++[(z.1,z.2,k.toNat)]) (a.set z.1 (L++[k])):=by
 have c:=h.mem z.1 L e;have g:=h.few z.1 L e;obtain⟨L,g⟩:=JV c (by lia) d M f;have L:(k.toNat:Int)=k:=by lia
 have d:¬((findRow (tableAt S.session.base z.1) k.toNat).isSome=true∨(findRow (tableAt S.session.now z.1) k.toNat).isSome=true∨k.toNat∈vZ l z.1):=λw=>M (by rw[<- L];show(c k.toNat).mpr w);have f:z.1<a.length:=(Wo.mp e).1;show⟨?_,⟨by rw[WZ,h.ok.pl];rfl,λq L=> ?_,?_⟩,by rw[XM];show h.len,λt M a n=> ?_,λt M a=> ?_⟩;rw[ZF,<- h.fold];change _=qC S.session l z;unfold qC;rw[show((l.filter λk=>k.1==z.1).map λk=>k.2.2)=vZ l z.1 from rfl,g];rcases W0.mp L with L|L
 show h.ok.MS q L;rw[Xd.mp L];show⟨by change 1<=k.toNat;lia,by change k.toNat<=99;lia,?_,?_⟩;cases e:findRow (tableAt S.session.base z.1) k.toNat with
 |none=>rfl
 |some r=>show absurd (.inl (by rw[e];rfl)) d
 cases e:findRow (tableAt S.session.now z.1) k.toNat with
 |none=>rfl
 |some r=>show absurd (.inr (.inl (by rw[e];rfl))) d
 rw[List.pairwise_append];show⟨h.ok.nd,Z5 _ _,λe l b g S L=> ?_⟩;rw[Xd.mp g]at S L;show d (.inr (.inr ?_));have L:e.2.2=k.toNat:=L;rw[<- L];show Wy.mpr ⟨e,W_.mpr ⟨l,by simpa using S⟩,rfl⟩;rw[G_];by_cases S:t=z.1;subst S;rw[Xe f]at a;cases a;rw[Wt rfl,W0,c n,W0,Xd,Xd];constructor;rintro((h|h|h)|h);show .inl h;show .inr (.inl h);show .inr (.inr (.inl h));show .inr (.inr (.inr (by change n=k.toNat;lia)));rintro(h|h|h|h);show .inl (.inl h);show .inl (.inr (.inl h));show .inl (.inr (.inr h));show .inr (by have h:=h;lia);rw[Xn (λw=>S w.symm)]at a;rw[Wn (λw=>S w.symm),XJ];show h.mem t M a n;rw[WY];by_cases S:t=z.1;subst S;rw[Xe f]at a;cases a;rw[WY];simp only[WG,Xj]
 lia
 rw[Xn (λw=>S w.symm)]at a;have:=h.few t M a
 lia
theorem Mx{l:ah Ky}(p:Pl):d7 (l.map jr) (kk p)=(l.find? λk=>decide (((k.1:Int),(k.2.1:Int))=p)).map λk=>V.int (k.2.2:Int):=by unfold d7;rw[List.find?_map,Option.map_map];congr 1;congr 1;funext k;change decide (kk ((k.1:Int),(k.2.1:Int))=kk p)=decide (((k.1:Int),(k.2.1:Int))=p);by_cases h:((k.1:Int),(k.2.1:Int))=p;rw[WK h,WK (by rw[h])];rw[WC h,WC (λz=>h (LZ z))]
theorem Hf{a c:Type}{R:a->c->Prop}{T:a->Prop}{xs:ah a}{b:ah c}(p:Paired R xs b)(h:∀x∈xs,T x):Paired (λx y=>T x/\R x y) xs b:=by
 induction p with
 |nil=>show .nil
 |cons r _ b=>show .cons ⟨h _ WD,r⟩ (b λx a=>h x (Wz _ a))
theorem IC{e:nF}{a:ah aB}(b:(e.map (·.1)).Perm a)(c:b4 a){n:Nat}:(n:Int)∈e.map (λz=>(z.1.id:Int))↔(findRow a n).isSome=true:=by
 unfold findRow;rw[aa1,Wy];constructor;rintro⟨z,a,e⟩;show⟨z.1,b.mem_iff.mp (Xc a),by simp;lia⟩;rintro⟨r,d,e⟩;obtain⟨z,a,c⟩:=Wy.mp (b.mem_iff.mpr d);have e:r.id=n:=by simpa using e
 show⟨z,a,by rw[c,e]⟩
inductive v5(K:ay)(cc:aC->ai)(c:ah V)(H:Hp)(Q:VK)(e:XK):Prop
 |mk (b f g:ai) (S:aI) (_:c=[.ref b]) (_:kQ cc H b f g S) (_:∀d a,aD H a->a d=some (.dT ((keysOf S.session).map jr))->pP S (newOnes S.session) (keysOf S.session)->(keysOf S.session).length<=32->Q (.ref d) a):v5 K cc c H Q e
theorem E9(c:En P w K B base CT cc I):fc P w K B base CT "make_keys" 2 ["session"] (v5 K cc):=by
 show cg c c.fs.C8 ["session","taken","table","rows","keys","number","key"] λf y A N s H r Q E p x b T=> ?_;have y:=d8 p;obtain⟨R,xS,xU,S,rfl,xA,k⟩:=x
 show⟨_,(aK (aP 1 b.nd (bI ao))
  (aK (cS WT rfl (g4 rfl T.cB (aj (aW T.aH T.aZ (pv 0)) ao)) (gf (n:=2) rfl (bU (bh 2 b.nd) (bU (bh 3 b.nd) eO)))
  (au (bP (fB W8 Xl Xq dh (pw 1) (aj (ef mY (dH (uW rfl) rfl T.nh boot_list (aj (bH aY (aW T.aH T.bV (pw 0)) (pw 2)) ao)) (dH (uW rfl) rfl T.nh boot_list (aj (pw 3) ao))) ao)))))
  (aK (aP 4 b.nd KH)
  (aK (cS WT rfl (cC (aR (za c) p aM (aj (pv 0) ao))) (gf (n:=2) rfl (bU (bh 2 b.nd) (bU (bh 5 b.nd) eO)))
  (aK (aP 6 b.nd (aR (CB c) p aM (aj (bH aY (pw 1) (pw 2)) ao)))
  (aK (bP (fB W8 Xl Xq dh (bH aY (pw 1) (pw 2)) (aj (pw 6) ao)))
  (au (iT y (pw 4) (iN (aj (pw 2) (aj (pw 5) ao))) (pw 6) rfl)))))
  (au (aJ (pw 4))))))),?_⟩
 have A:=xA.1;have Z:=A.fT.now.w.fit.len;have y:=A.so.few;right;obtain⟨N,y,c,b,p,Q,d⟩:=xA.2.read;obtain⟨G,y,rfl,N,z⟩:=d.now;have xQ:y.length=S.session.now.length:=aT z;left;intro p xK;have c:aD H (upd H p (.lst [])):=aD.new xK;have C:upd H p (.lst []) p=some (.lst []):=av;generalize upd H p (.lst [])=b at c C|-;walk_at "l";show⟨.ref R,rfl,R,_,.ref G,rfl,aD.ob c Q,rfl,G,y,rfl,bG.of (c _ _ N),gv (xs:=y) (λi v r =>OB λ(o q:az V)(b:ah ai)(f:ah (ah Int))=>T9 (v=[some (.ref R),some (.ref p),o,q,none,none,none]) (aD H r) (r p=some (.lst (b.map V.ref))) (b.Nodup) ((∀a∈b,a≠p/\H a=none)) (Paired (λa L=>r a=some (.lst (aG L))) b f) (f.length=i) (∀(t:Nat) L,f[t]? =some L->L.length<=16/\∀n:Nat,(n:Int)∈L↔((findRow (tableAt S.session.base t) n).isSome=true∨(findRow (tableAt S.session.now t) n).isSome=true))) ⟨none,none,[],[],rfl,c,C,YQ,(λa h=>by cases h),.nil,rfl,λt L x=>by simp at x⟩ ?_ ?_ ?_⟩
 . rintro i v r J ⟨o,q,b,f,rfl,M,_⟩;show bG.of (M _ _ N)
 . rintro i xV T v E U xq ⟨o,q,b,f,rfl,M,xg,xr,O,D,G,W⟩ m Y;right;obtain⟨xu,xj,xF,g,rfl,xC,y,xN,xT⟩:=bB z xq;have u:=M.trans m;have J:i<S.schema.length:=(by rw[<- Z];show(Wo.mp xj).1);obtain⟨xE,N,ld,e,c,rfl,X,xx,xJ,xB,y,xM,xR⟩:=j4 d.base (t:=i) (by rw[A.base.w.fit.len];show J);walk_at "u";have y:=A.fT.now.w.fit.few i xu xj;have y:=A.base.w.fit.few i c xJ;have xh:=m _ _ xg;walk_at "v";show g2 (dO.of Y) ?_;left;have y:g.length=xu.length:=(by have:=xN.length_eq;rw[Wl]at this;show this);have y:e.length=c.length:=(by have:=xM.length_eq;rw[Wl]at this;show this);have y:(aL e).length=e.length:=(by unfold aL;rw[Wl]);have y:(aL g).length=g.length:=(by unfold aL;rw[Wl]);show⟨⟨_,bG.of xh⟩,_,aD.ob u Q,_,rfl,xE,rfl,_,bG.of (u _ _ X),_,bJ xx,ld,aL e,rfl,.inl (u _ _ xB),λs N=>⟨xF,aL g,rfl,.inl (aD.new N _ _ (u _ _ xC)),λz C=>⟨s,z,_,_,rfl,rfl,aD.new C _ _ av,av,by rw[Wl,Wl,Wx];lia,λd y=> ?_⟩⟩⟩;have Q:aD U (upd (upd U s (.lst ((aL e).map λc=>kV c.1))) z (.lst ((aL g).map λc=>kV c.1))):=(aD.new N).trans (aD.new C);generalize upd (upd U s (.lst ((aL e).map λc=>kV c.1))) z (.lst ((aL g).map λc=>kV c.1))=C at Q y|-;have N:((aL e).map λc=>kV c.1)++((aL g).map λc=>kV c.1)=aG ((e.map λz=>(z.1.id:Int))++g.map λz=>(z.1.id:Int)):=(by unfold aL aG;rw[WZ,WN,WN,WN,WN];rfl);rw[N];generalize xF:(e.map λz=>(z.1.id:Int))++g.map (λz=>(z.1.id:Int))=N;have c:aD C (upd C d (.lst (aG N))):=aD.new y;have xG:upd C d (.lst (aG N)) d=some (.lst (aG N)):=av;generalize upd C d (.lst (aG N))=s at c xG|-;have xx:=Q.trans c;have X:=xx _ _ xh;have xB:bS [p] s (upd s p (.lst (b.map V.ref++[.ref d]))):=bS.upd;have xE:d≠p:=λe=>by rw[e,Q _ _ xh]at y;cases y
   have xO:H d=none:=by
    cases e:H d with
    |none=>rfl
    |some xh=>rw[Q _ _ (u _ _ e)]at y;cases y
   have xH:b.length=f.length:=aT D;have xP:d∉b:=λg=>(by obtain⟨j,H⟩:=XZ.mp g;obtain⟨L,_,c⟩:=bB D H;rw[Q _ _ (m _ _ c)]at y;cases y);show⟨_,X,by rw[Wl,Wx];lia,λxC xh e=>xB _ _ (b6 (aA e xK)) (xx _ _ (u _ _ e)),b++[d],by rw[WZ];rfl,nY xr xP,λa h=> ?_,f++[N],?_,by rw[WY,G];rfl,λt L c=> ?_⟩
   . rcases W0.mp h with h|h
     . show O a h
     . rw[Xd.mp h];show⟨xE,xO⟩
   . have y:Paired (λa(L:ah Int)=>a≠p/\E a=some (.lst (aG L))) b f:=Hf D λa h=>(O a h).1;show eH (bf (λa L x=>xB _ _ (b6 x.1) (xx _ _ (m _ _ x.2))) y) (.cons (xB _ _ (b6 xE) xG) .nil)
   . by_cases y:t<f.length
     . rw[Y8 y]at c;show W t L c
     . have y:=(Wo.mp c).1;simp only[WY,WG,Xj]at y;have y:t=f.length:=(by lia);subst y;rw[Y4 (Wu _)]at c;simp at c;subst c;show⟨by rw[<- xF,WY,Wl,Wl];lia,λn=> ?_⟩;rw[G,bT xj,bT xJ,<- xF,W0,IC xM xR,IC xN xT]
 . rintro v E ⟨o,q,b,f,rfl,M,xg,xr,O,D,G,W⟩;rw[xQ,Z]at G;have xE:KI S [] [] f:=⟨rfl,⟨rfl,(λk y=>by cases y),List.Pairwise.nil⟩,G,λt L c n=>by rw[(W t L c).2 n];simp[vZ],λt L c=>(W t L c).1⟩;have xH:b.length=S.schema.length:=(by rw[<- G];show aT D);left;intro d Q;have m:aD E (upd E d (.dT [])):=aD.new Q;have G:upd E d (.dT []) d=some (.dT (([]:ah Ky).map jr)):=av;generalize upd E d (.dT [])=U at m G|-;have u:=M.trans m;left;show⟨_,rfl,R,xS,xU,S,rfl,⟨A,fu.same xA.2 u⟩,λxB xs C E y xx U N=> ?_⟩;have xj:=bf (λa L x=>(m.trans E) _ _ x) D;have xA:=o9 S.session (by lia);have x:(newOnes S.session).length<=32:=(by rw[<- aT U];show N);have W:∀a∈b,∃L,C a=some (.lst (aG L)):=λa h=>(by obtain⟨j,H⟩:=XZ.mp h;obtain⟨L,_,c⟩:=bB xj H;show⟨L,c⟩);have x:=E _ _ G;have N:=E _ _ (m _ _ xg);have xg:d∉b:=λg=>by obtain⟨L,c⟩:=W d g;rw[x]at c;cases c
   have xF:p∉d::b:=λg=>by
    rcases WB.mp g with e|g
    . rw[e,x]at N;cases N
    . show(O p g).1 rfl
   have h:xB∉d::b:=λg=>by
    rcases WB.mp g with e|g
    . rw[e,G]at y;cases y
    . obtain⟨j,H⟩:=XZ.mp g;obtain⟨L,_,c⟩:=bB D H;rw[m _ _ c]at y;cases y
   have y:xs.length=(newOnes S.session).length:=aT U;show⟨xB,rfl,⟨_,bG.of xx⟩,dN (xs:=xs) (λj v r =>R3 λ(o q D G:az V)(l:ah Ky)(f:ah (ah Int))=>Jt (v=[some (.ref R),some (.ref p),o,q,some (.ref d),D,G]) (bS (d::b) C r) (r d=some (.dT (l.map jr))) (Paired (λa L=>r a=some (.lst (aG L))) b f) (KI S ((newOnes S.session).take j) l f)) ⟨o,q,none,none,[],f,rfl,bS.refl _ _,x,xj,xE⟩ ?_ ?_ ?_⟩
   . rintro j v r H ⟨o,q,D,G,l,f,rfl,m,_⟩;show bG.of (m _ _ h xx)
   . rintro j xV v s xq ⟨o,q,D,G,l,f,rfl,m,R,C,h⟩;right;obtain⟨z,r,y,rfl,p⟩:=bB U xq;have H:j<(newOnes S.session).length:=(Wo.mp r).1
     have H:y∉d::b:=λg=>by
      rcases WB.mp g with e|g
      . rw[e,x]at p;cases p
      . obtain⟨L,c⟩:=W y g;rw[c]at p;cases p
     have x:=m _ _ H p;have X:=m _ _ xF N;obtain⟨xu,y,c,_⟩:=(gV A.fT A.J2 (t:=z.1) (i:=z.2)).mp (Wq r);have y:z.1<b.length:=(by rw[xH,<- Z];show(Wo.mp c).1);obtain⟨a,H⟩:∃a,b[z.1]? =some a:=⟨_,Wr y⟩;obtain⟨L,N,c⟩:=bB C H;walk_at "u";have y:(b.map V.ref)[z.1]? =some (.ref a):=(by rw[Ws,H];rfl);have xj:(newOnes S.session).take (j+1)=(newOnes S.session).take j++[z]:=(by rw[W7,r];rfl);have b:=h.few z.1 L N;rw[Xo]at b;have p:(aG L).length=L.length:=Wl _;have Z:=Wq H;have A:a≠d:=λe=>xg (e▸Z);have xu:d7 (l.map jr) (kk ((z.1:Int),(z.2:Int)))=none:=by rw[Mx];have:(l.find? λk=>decide (((k.1:Int),(k.2.1:Int))=((z.1:Int),(z.2:Int))))=none:=(by rw[Yq];intro b r e;have e:=XT e;have U:=(XU e).1;have W:=(XU e).2;have xq:z∈(newOnes S.session).take j:=(by rw[<- h.ok.pl];show Wy.mpr ⟨b,r,Z8 (by change b.1=z.1;lia) (by change b.2.1=z.2;lia)⟩);have b:((newOnes S.session).take (j+1)).Nodup:=Z3 (aaY _ _) xA;rw[xj]at b;show(Yx.mp b).2.2 z xq z (by simp) rfl);rw[this];rfl
     have b:(l.map jr).length<=32:=by
      have:=XE List.length h.ok.pl;rw[Wl,Xo]at this;rw[Wl]
      lia
     walk_at "v";show g2 (dO.of x) ?_;left;show⟨_,bG.of X,_,bJ y,a,L,rfl,c,λb U W xq=> ?_⟩;left;show⟨_,bG.of X,_,bJ y,⟨_,bG.of c⟩,a,rfl,_,c,by rw[p,Wx];lia,?_⟩;have c:aG L++[V.int b]=aG (L++[b]):=(by simp);rw[c];have x:bS [a] s (upd s a (.lst (aG (L++[b])))):=bS.upd;have X:upd s a (.lst (aG (L++[b]))) a=some (.lst (aG (L++[b]))):=av;generalize upd s a (.lst (aG (L++[b])))=c at x X|-;left;show⟨qI (by lia),λT Y=> ?_⟩;have p:aD c (upd c T (.tup [V.int (z.1:Int),V.int (z.2:Int)])):=aD.new Y;have y:upd c T (.tup [V.int (z.1:Int),V.int (z.2:Int)]) T=some (.tup [V.int (z.1:Int),V.int (z.2:Int)]):=av;generalize upd c T (.tup [V.int (z.1:Int),V.int (z.2:Int)])=r at p y|-;have c:=p _ _ (x _ _ (b6 A.symm) R);show⟨_,m8.t c (k:=kk ((z.1:Int),(z.2:Int))) y (by rw[Wx];lia),?_⟩;rw[jS _ xu];have c:l.map jr++[(kk ((z.1:Int),(z.2:Int)),V.int b)]=(l++[(z.1,z.2,b.toNat)]).map jr:=(by rw[WZ];congr 1;change _=[(kk ((z.1:Int),(z.2:Int)),V.int ((b.toNat:Nat):Int))];rw[show((b.toNat:Nat):Int)=b by lia]);rw[c];have y:bS [d] r (upd r d (.dT ((l++[(z.1,z.2,b.toNat)]).map jr))):=bS.upd;have A:upd r d (.dT ((l++[(z.1,z.2,b.toNat)]).map jr)) d=some (.dT ((l++[(z.1,z.2,b.toNat)]).map jr)):=av;generalize upd r d (.dT ((l++[(z.1,z.2,b.toNat)]).map jr))=c at y A|-;show⟨λc xh n e=> ?_,l++[(z.1,z.2,b.toNat)],A,f.set z.1 (L++[b]),?_,?_⟩
     . have A:c≠d:=λw=>n (by rw[w];show WD);have L:c≠a:=λw=>n (by rw[w];show Wz _ Z);show y _ _ (b6 A) (p _ _ (x _ _ (b6 L) (m _ _ n e)))
     . show gQ (by rw[XM];show aT C) λi c Z b r=> ?_;have Z:=Wq b;have A:c≠d:=λw=>xg (w▸Z);by_cases J:i=z.1
       . subst J;rw[H]at b;cases b;rw[Xe (Wo.mp N).1]at r;cases r;show y _ _ (b6 A) (p _ _ X)
       . rw[Xn (λw=>J w.symm)]at r;obtain⟨M2,z,X⟩:=bB C b;rw[r]at z;cases z;have L:c≠a:=λw=>(by subst w;show J (qt xr b H));show y _ _ (b6 A) (p _ _ (x _ _ (b6 L) X))
     . rw[xj];show h.step (by rw[Xo];lia) N U W xq
   . rintro v s ⟨o,q,D,G,l,f,rfl,m,R,C,h⟩;rw[W2 (by lia)]at h;have c:l=keysOf S.session:=(by rw[h.fold];unfold keysOf;rw[kP]);subst c;left;show k d s (λxC xh e=>m _ _ (λg=> ?_) (E _ _ (u _ _ e))) R h.ok ?_
     . rcases WB.mp g with rfl|g
       . rw[M _ _ e]at Q;cases Q
       . rw[(O xC g).2]at e;cases e
     . have:=XE List.length h.ok.pl;rw[Wl]at this
       lia
section
variable{S:aI}{l:ah Ky}
theorem oq{t i:Nat}(h:(t,i)∈l.map λk=>(k.1,k.2.1)):∃k∈l,k.1=t/\k.2.1=i/\keyFor l t i=k.2.2:=by
 obtain⟨c,a,e⟩:=Wy.mp h;unfold keyFor;cases b:l.find? λk=>k.1==t&&k.2.1==i with
 |none=>have:=Yq.mp b c a;have a:=(XU e).1;have h:=(XU e).2;simp[a,h]at this
 |some k=>have a:=XQ b;simp only[WV,XD]at a;show⟨k,Xf b,a.1,a.2,rfl⟩
theorem l_{t i:Nat}(h:(t,i)∉l.map λk=>(k.1,k.2.1)):keyFor l t i=i:=by
 unfold keyFor;have:(l.find? λk=>k.1==t&&k.2.1==i)=none:=by rw[Yq];intro k i e;simp only[WV,XD]at e;show h (Wy.mpr ⟨k,i,Z8 e.1 e.2⟩)
 rw[this];rfl
theorem IE{R:Ky->Ky->Prop}(j:∀{a b},R a b->R b a):∀{l:ah Ky},l.Pairwise R->∀a∈l,∀b∈l,a≠b->R a b
 |[],_,a,d,_,_,_=>by cases d
 |c::l,f,a,d,b,e,i=>by
  obtain⟨h,k⟩:=XY.mp f;rcases WB.mp d with g|d
  rcases WB.mp e with f|e
  show absurd (g.trans f.symm) i;rw[g];show h b e;rcases WB.mp e with f|e
  rw[f];show j (h a d);show IE j k a d b e i
theorem v7(j:pP S (newOnes S.session) l){t:Nat}{c:ah aB}(d:S.session.now[t]? =some c)(f:b4 c){a b:aB}(u:a∈c)(v:b∈c)(e:keyFor l t a.id=keyFor l t b.id):a.id=b.id:=by
 have row:∀{r:aB},r∈c->findRow (tableAt S.session.now t) r.id=some r:=λs=>by rw[bT d];show gu f s
 by_cases o:(t,a.id)∈l.map λk=>(k.1,k.2.1);obtain⟨i,q,r,s,m⟩:=oq o;by_cases c:(t,b.id)∈l.map λk=>(k.1,k.2.1);obtain⟨d,h,f,n,g⟩:=oq c;by_cases p:i=d;rw[<- s,<- n,p];have:=IE (R:=λa b=>a.1=b.1->a.2.2≠b.2.2) (λ{a b} s e=>(s e.symm).symm) j.nd i q d h p (by rw[r,f]);rw[m,g]at e;show absurd e this;rw[l_ c,m]at e;have:=(j.MS i q).2.2.2;rw[r,e,row v]at this;cases this;rw[l_ o]at e;by_cases c:(t,b.id)∈l.map λk=>(k.1,k.2.1);obtain⟨d,h,f,n,g⟩:=oq c;rw[g]at e;have:=(j.MS d h).2.2.2;rw[f,<- e,row u]at this;cases this;rw[l_ c]at e;show e
end
theorem E_:∀a acc,b4 acc->((acc++a).map λr=>r.id).Nodup->(a.foldl (λl r=>VauowBase.putIn r l) acc).Perm (acc++a)/\b4 (a.foldl (λl r=>VauowBase.putIn r l) acc)
 |[],acc,b,_=>by rw[XJ];show⟨.refl _,b⟩
 |r::a,acc,b,l=>by
  rw[YW];have c:∀q∈acc,q.id≠r.id:=by intro q d e;rw[WZ,WM]at l;show(Yx.mp l).2.2 q.id (Xc (f:=λr:aB=>r.id) d) r.id WD e
  have q:=lW c;have e:((VauowBase.putIn r acc++a).map λr=>r.id).Nodup:=by have:(VauowBase.putIn r acc++a).Perm (acc++r::a):=(by have:=(q.symm.append_right a);rw[Yc]at this;show this);show(this.map _).nodup_iff.mpr l
  obtain⟨l,c⟩:=E_ a (VauowBase.putIn r acc) (iD b) e;show⟨l.trans ?_,c⟩;have:=(q.symm.append_right a);rw[Yc]at this;show this
def A4(s:Schema)(l:ah Ky)(t:Nat)(a:ah aB):ah VauowBase.Row:=(a.map (keyedRow s l t)).foldl (λl r=>VauowBase.putIn r l) []
theorem Fb s x t:(keyed s x)[t]? =(x.now[t]?).map (A4 s (keysOf x) t):=by
 unfold keyed;rw[Ws,WX];cases x.now[t]? with
 |none=>rfl
 |some s=>simp[A4]
section
variable{S:aI}
theorem v8(d:pK S)(g:pP S (newOnes S.session) l){t:Nat}(b:S.session.now[t]? =some a):(A4 S.schema l t a).Perm (a.map (keyedRow S.schema l t))/\b4 (A4 S.schema l t a):=by
 have c:=d.fT.now.w.ri t a b
 have h:((a.map (keyedRow S.schema l t)).map λr=>r.id).Nodup:=by
  rw[WN];unfold List.Nodup;rw[W9];show aa9 ?_ c;intro r i d f j e;have:=v7 g b c d f e
  lia
 have:=E_ (a.map (keyedRow S.schema l t)) [] List.Pairwise.nil (by simpa using h);rw[abo]at this;show this
theorem v9(a:pK S)(f:pP S (newOnes S.session) l){t:Nat}(u:S.session.now[t]? =some b)(e:r∈b):dZ S.schema t (keyedRow S.schema l t r)/\(keyedRow S.schema l t r).id<100:=by
 have g:=a.fT.now.row u e
 have d:1<=keyFor l t r.id/\keyFor l t r.id<100:=by
  by_cases c:(t,r.id)∈l.map λk=>(k.1,k.2.1);obtain⟨q,k,v,i,h⟩:=oq c;have:=f.MS q k;rw[h]
  lia
  rw[l_ c];show⟨g.pos,?_⟩;rcases a.fT.ids t b u r e with h|h
  show h.1;exfalso;show c ?_;rw[f.pl];show(gV a.fT a.J2).mpr ⟨b,r,u,e,rfl,?_⟩;cases e:rowAt S.session.base t r.id with
  |none=>rfl
  |some q=>
   obtain⟨u,c,k⟩:=gT (Xf e);have v:q.id=r.id:=(by simpa using XQ e);have:=a.J2 t u c q k
   lia
 show⟨⟨d.1,?_,λc v h a=> ?_⟩,d.2⟩;change(r.vals.zipIdx.map _).length=_;rw[Wl,Xr];show g.rD;unfold keyedRow at h;rw[Ws,WX]at h;cases e:r.vals[c]? with
 |none=>rw[e]at h;cases h
 |some u=>rw[e]at h;have h:some (match refersInto S.schema t (0+c)with|some w=>if 0<u then((keyFor l w u.toNat:Nat):Int)else u|none=>u)=some v:=h;rw[XS,a]at h;rw[<- W5 h];show g.num c u e a
theorem Hg(d:pK S)(g:pP S (newOnes S.session) (keysOf S.session)):dX S.schema (keyed S.schema S.session)/\∀(t:Nat) a,(keyed S.schema S.session)[t]? =some a->∀r∈a,r.id<100:=by
 have one:∀(t:Nat) a,(keyed S.schema S.session)[t]? =some a->(a.length<=8/\b4 a)/\∀r∈a,dZ S.schema t r/\r.id<100:=by
  intro t a e;rw[Fb]at e;cases b:S.session.now[t]? with
  |none=>rw[b]at e;cases e
  |some i=>rw[b]at e;cases e;obtain⟨f,h⟩:=v8 d g b;show⟨⟨?_,h⟩,λr c=> ?_⟩;rw[f.length_eq,Wl];show d.fT.now.w.fit.few t i b;obtain⟨q,h,rfl⟩:=Wy.mp (f.mem_iff.mp c);show v9 d g b h
 show⟨dX.mk' ?_ λt a e=>⟨(one t a e).1.1,(one t a e).1.2,λr c=>((one t a e).2 r c).1⟩,λt a e r c=>((one t a e).2 r c).2⟩;unfold keyed;rw[Wl,Xr];show d.fT.now.w.fit.len
end
def rM(l:ah Ky)(a:Column)(v:Int):Int:=match a.kind with
 | .ref u _ _=>if 0<v then((keyFor l u v.toNat:Nat):Int)else v
 |_=>v
theorem Fc{l:ah Ky}{u:Nat}{v:Int}(b:∀k∈l,1<=k.2.1):((d7 (l.map jr) (kk ((u:Int),v))).getD (.int v))= .int (if 0<v then((keyFor l u v.toNat:Nat):Int)else v):=by
 rw[Mx];by_cases a:0<v;rw[Wt a];unfold keyFor
 have e:(l.find? λk=>decide (((k.1:Int),(k.2.1:Int))=((u:Int),v)))=l.find? λk=>k.1==u&&k.2.1==v.toNat:=by
  congr 1;funext k;rw[Xg,XG];simp only[WV,XD,Prod.mk.injEq]
  lia
 rw[e];cases l.find? λk=>k.1==u&&k.2.1==v.toNat with
 |none=>change V.int v=V.int ((v.toNat:Nat):Int);rw[show((v.toNat:Nat):Int)=v by lia]
 |some k=>rfl
 rw[Wn a]
 have:(l.find? λk=>decide (((k.1:Int),(k.2.1:Int))=((u:Int),v)))=none:=by
  rw[Yq];intro k a e;have e:=XT e;have l:=(XU e).2;have:=b k a
  lia
 rw[this];rfl
inductive Fd(cc:aC->ai)(e:ah V)(H:Hp)(Q:VK)(f:XK):Prop
 |mk (b d:ai) (v:Int) (c:Column) (l:ah Ky) (_:e=[.ref b,.ref d,.int v]) (_:Ob H b (cc "Column") (oB c)) (_:H d=some (.dT (l.map jr))) (_:(∀k∈l,1<=k.2.1)) (_:∀a,aD H a->Q (.int (rM l c v)) a):Fd cc e H Q f
theorem rN(a:En P w K B base CT cc I):fc P w K B base CT "value_with_key" 1 ["column","keys","value"] (Fd cc):=by
 show cg a a.fs.qP ["column","keys","value"] λf d A u s H c Q E b h sc T=> ?_;have f:=d8 b;obtain⟨b,u,v,d,l,rfl,a,c,e,k⟩:=h
 show⟨_,(aE (bz (aQ uB (aW T.bL T.bR (pw 0)) iM (a_ _))
  (au (aJ (pw 2)))
  aN)
  (au (aJ (uQ f (pw 1) (iN (aj (aW T.bL T.bR (pw 0)) (aj (pw 2) ao))) (pw 2) ⟨rfl,rfl,rfl,rfl⟩)))),?_⟩
 left;unfold rM at k;cases b:d.kind with
 |number lo d=>rw[b]at k;rw[lU b]at a;show⟨_,a,.non,rfl,?_⟩;rw[Wt rfl];show k H (aD.refl _)
 |ref u f d=>rw[b]at k;rw[gJ b]at a;show⟨_,a,_,rfl,?_⟩;rw[Wn (by simp)];show⟨.inr ⟨_,.inl c⟩,_,a,_,rfl,qI (by lia),λT b=>⟨_,dJ.t (aD.new b _ _ c) (k:=kk ((u:Int),v)) av,?_⟩⟩;rw[Fc e];show k _ (aD.new b)
theorem Hh{t:Nat}(e:columnsOf s t=a)(hw:r.vals.length=a.length):(keyedRow s l t r).vals=a.zipIdx.map λw=>rM l w.1 (r.vals.getD w.2 0):=by
 show Yd λc=> ?_;change(r.vals.zipIdx.map _)[c]? =_;rw[Ws,WX,Ws,WX];by_cases h:c<a.length;have b:r.vals[c]? =some r.vals[c]:=Wr (by lia);have d:=Wr h;rw[b,d];simp only[Yi,XS];congr 1;have h:r.vals.getD c 0=r.vals[c]:=by rw[Yh,b];rfl
 rw[h,qy (s:=s) (t:=t) (by rw[e];show d)];unfold rM;cases a[c].kind<;>rfl;rw[Xh (by lia),Xh (by lia)];rfl
inductive v_(K:ay)(cc:aC->ai)(e:ah V)(H:Hp)(Q:VK)(f:XK):Prop
 |mk (c b:V) (d:ai) (S:aI) (_:e=[c,b,.ref d]) (_:eL cc H c S.schema) (_:cV H b S.session.now) (_:pK S) (_:H d=some (.dT ((keysOf S.session).map jr))) (_:pP S (newOnes S.session) (keysOf S.session)) (_:∀v a,aD H a->cV a v (keyed S.schema S.session)->Q v a):v_ K cc e H Q f
theorem Fe(Y:En P w K B base CT cc I):fc P w K B base CT "with_keys" 2 ["schema","tables","keys"] (v_ K cc):=by
 show cg Y Y.fs.C9 ["schema","tables","keys","others","table","columns","rows","number","row","values","index","column"] λf W A b s H M Q E C y sc T=> ?_;have b:=d8 C;obtain⟨R,M,xN,S,rfl,⟨h,G,rfl,Q,X⟩,⟨t,xE,rfl,z,d⟩,v,W,xF,k⟩:=y
 show⟨_,(aK (aP 3 sc.nd (bI ao))
  (aK (cS WT rfl (g4 rfl T.cB (aj (pv 0) ao)) (gf (n:=2) rfl (bU (bh 4 sc.nd) (bU (bh 5 sc.nd) eO)))
  (aK (aP 6 sc.nd qb)
  (aK (HQ (cS WT rfl (KP (bH aY (pv 1) (pv 4))) (gf (n:=2) rfl (bU (bh 7 sc.nd) (bU (bh 8 sc.nd) eO)))
  (aK (DB (i:=9) (own:=[("index",10),("column",11)]) rfl sc.nd rfl rfl (HK rfl rfl rfl (by decide+kernel)) (g4 rfl T.cB (aj (pv 5) ao)) (cY (N:=["schema","tables","keys","others","table","columns","rows","number","row","values","index","column"]) (sc:=bD rR) (by decide+kernel)) (λ_ _ _ _ _=>(show PG _ _ (Kh K 2 _)from(gf (n:=2) rfl (bU (bh 10 sc.nd) (bU (bh 11 sc.nd) eO))))) (λ_ _ _ _ _=>fU) (λ_ _ _ _ _=>(aR (rN Y) C aM (aj (pw 11) (aj (pw 2) (aj (bH (show ML _ (F8 K)from gh) (pw 8) (pw 10)) ao))))))
  (au (iT b (pw 6) (uQ b (pw 2) (iN (aj (pw 4) (aj (pw 7) ao))) (pw 7) ⟨rfl,rfl,rfl,rfl⟩) (dH q6 rfl T.nZ boot_tuple (aj (pw 9) ao)) rfl)))))
  (au (bP (fB W8 Xl Xq dh (pw 3) (aj (pw 6) ao)))))))
  (au (aJ (pw 3))))),?_⟩
 left;intro p x8;have D:aD H (upd H p (.lst [])):=aD.new x8;have M:upd H p (.lst []) p=some (.lst []):=av;generalize upd H p (.lst [])=b at D M|-;generalize J:keysOf S.session=l at W xF k;have b:=v.fT.now.w.fit.len;have b:G.length=S.schema.length:=aT X;have b:=v.so.few
 have x6:∀k∈l,1<=k.2.1:=by
  intro b R;have:(b.1,b.2.1)∈newOnes S.session:=by rw[<- xF.pl];show Wy.mpr ⟨b,R,rfl⟩
  obtain⟨u,r,e,C,yd,_⟩:=(gV v.fT v.J2).mp this;have:=v.fT.now.w.pos _ _ e r C
  lia
 walk_at "l";show⟨_,rfl,h,_,rfl,bG.of (D _ _ Q),gv (xs:=G) (λi x f =>T6 λ(xH xJ xK m r s:az V)(A:ah ai)=>QO (x=[some (.ref h),some (.ref t),some (.ref xN),some (.ref p),xH,xJ,xK,m,r,s,none,none]) (aD H f) (f p=some (.lst (A.map V.ref))) (Paired (dm f) (A.map V.ref) ((keyed S.schema S.session).take i))) ⟨none,none,none,none,none,none,[],rfl,D,M,.nil⟩ ?_ ?_ ?_⟩
 . rintro i x f G ⟨xH,xJ,xK,m,r,s,A,rfl,xq,_⟩;show bG.of (xq _ _ Q)
 . rintro i Q T x xX U M ⟨xH,xJ,xK,m,r,s,A,rfl,xq,xP,Z⟩ b xx;right;obtain⟨D,C,xB,xu,rfl,R,xW⟩:=bB X M;have O:=xq.trans b;have G:i<S.schema.length:=(Wo.mp C).1;obtain⟨u,G⟩:∃u,S.session.now[i]? =some u:=⟨_,Wr (by lia)⟩;obtain⟨M,xA,c,a,rfl,g,xO,xj,x9⟩:=b_ d G;have M:a.length=u.length:=(by have:=xj.length_eq;rw[Wl]at this;show this);have M:=v.fT.now.w.fit.few i u G;have xY:columnsOf S.schema i=D.columns:=fH C;have M:=v.so.cols D (Wq C);have xZ:xu.length=D.columns.length:=aT xW;have xC:=b _ _ xP;have yh:=Rows.same Z b
   have C:A.length<=i:=by
    have:=aT Z;rw[Wl,Xo]at this
    lia
   have ye:(keyed S.schema S.session)[i]? =some (A4 S.schema l i u):=(by rw[Fb,G,J];rfl);obtain⟨yf,yg⟩:=v8 v xF G;walk_at "u";walk_at "v";show g2 (dO.of xx) ?_;left;intro q E;have xV:aD U (upd U q (.dK [])):=aD.new E;have xg:upd U q (.dK []) q=some (.dK (aL [])):=av;generalize upd U q (.dK [])=b at xV xg|-;have J:=O.trans xV;have M:=J _ _ g;have N:q≠c:=λe=>(by rw[e,O _ _ g]at E;cases E);have C:q≠p:=λe=>(by rw[e,xC]at E;cases E);left;show⟨c,_,M,True.intro,λC=> ?_⟩;have L:upd b c (HO.dI C (.dK (aL a))) c=some (.dI C (.dK (aL a))):=av;have xr:bS [c] b (upd b c (HO.dI C (.dK (aL a)))):=bS.upd;generalize upd b c (HO.dI C (.dK (aL a)))=M at L xr|-;have X:∀{d o},H d=some o->d≠c->M d=some o:=λe n=>xr _ _ (b6 n) (J _ _ e);have xh:=X z (bF z g (by simp));have b:=X W (bF W g (by simp));have b:=X R (bF R g (by simp));have b:(aL a).length=a.length:=(by unfold aL;rw[Wl]);show⟨.ref t,rfl,.int i,rfl,t,xE,(i:Int),.ref c,rfl,rfl,bG.of xh,bJ xA,c,C,aL a,rfl,L,Cj (J:=TQ c C (aL a)) a.length (λj x f =>OB λ(m r s:az V)(b :nF)=>Jt (x=[some (.ref h),some (.ref t),some (.ref xN),some (.ref p),some (.int i),some (.ref xB),some (.ref q),m,r,s,none,none]) (bS [q] M f) (f q=some (.dK (aL b))) (b.map (·.1)=(a.take j).map (λz=>keyedRow S.schema l i z.1)) (∀z∈b,f z.2=some (.tup (aG z.1.vals)))) ⟨m,r,s,[],rfl,bS.refl _ _,xr _ _ (b6 N) xg,rfl,λz J=>by cases J⟩ ?_ ?_ ?_ ?_⟩
   . rintro j x f xA ⟨m,r,s,b,rfl,t,_⟩;show⟨t _ _ (b6 N.symm) L,by lia⟩
   . rintro x f ⟨m,r,s,b,rfl,t,_⟩;show⟨t _ _ (b6 N.symm) L,by lia⟩
   . rintro j Q x f xM xA ⟨m,r,s,b,rfl,t,xQ,M,xS⟩ xg;right;obtain⟨C,xU,xG,xh,rfl,xE,rfl⟩:=xg;walk_at "u";have xg:a[j]? =some a[j]:=Wr xA;generalize a[j]=z at xg;have J:=Wq xg;unfold aL at xh;rw[Ws,xg]at xh;cases xh;have xG:aD f (upd f C (.tup [kV (Sum.inl (z.1.id:Int)),V.ref z.2])):=aD.new xE;have xE:upd f C (.tup [kV (Sum.inl (z.1.id:Int)),V.ref z.2]) C=some (.tup [.int (z.1.id:Int),V.ref z.2]):=av;generalize upd f C (.tup [kV (Sum.inl (z.1.id:Int)),V.ref z.2])=xh at xG xE|-;have xR:z.1∈u:=xj.mem_iff.mp (Xc J);have xT:=v.fT.now.w.fit.rD i u G z.1 xR;rw[xY]at xT;have C:∀{d o},H d=some o->d≠c->xh d=some o:=λ{d o} e n=>xG _ _ (t _ _ (by have:d≠q:=aA (O _ _ e) E;simpa using this) (X e n));have yi:=C (xO z J) (bF (xO z J) g (by simp));have xA:=C R (bF R g (by simp));have xO:=C W (bF W g (by simp));have yc:Paired (AG cc xh) xu D.columns:=bf (λ_ _⟨X,e,W,o⟩=>⟨X,e,W,C o (bF o g (by simp))⟩) xW;walk_at "v";show g2 (dO.of xE) ?_;left;rw[gj];show⟨_,rfl,xB,_,rfl,bG.of xA,?_⟩;dsimp only;show kM D.columns.zipIdx (λ_=>true) (λw Q H=>∃T C,Q= .ref T/\H T=some (.tup [.int (w.2:Nat),C])/\xu[w.2]? =some C) (λxW H w R=>R= .int (rM l w.1 (z.1.vals.getD w.2 0))) (by rw[Xr,Wx];lia) (λ_ _ _ _ _ y _=>y) (λxh W xB h=>(GY (bG.of xA)).1 xh W (by rw[Xr]at xB;lia) h) (λW h=>by have:=(GY (K:=K) (bG.of xA)).2.1 W h;rw[xZ]at this;rw[Xr];show this) ?_ ?_ ?_
     . intro xh w W Q ya hw h xE;rw[WX]at hw;cases H:D.columns[xh]? with
       |none=>rw[H]at hw;cases hw
       |some yb=>rw[H]at hw;cases hw;obtain⟨C,xB⟩:∃C,xu[xh]? =some C:=⟨_,Wr (by rw[xZ];show(Wo.mp H).1)⟩;obtain⟨D,T,H,xu⟩:=(GY (bG.of xA)).2.2 xh C W Q ya xB h xE;rw[XS];show⟨D,T,C,H,xu,xB⟩
     . rintro xW w Q W xh h hw xA H yj ⟨ya,C,rfl,xZ,xB⟩ xU yk;have Q:=Xx.mp hw;right;obtain⟨yb,C,yj,rfl,ya⟩:=bB yc xB;walk_at "u";rw[Q]at C;cases C;obtain⟨h,xh⟩:∃h,z.1.vals[w.2]? =some h:=⟨_,Wr (by rw[xT];show(Wo.mp Q).1)⟩;have C:z.1.vals.getD w.2 0=h:=(by rw[Yh,xh];rfl);rw[C]at xU;walk_at "v";show g2 (dO.of xZ) ?_;left;show⟨_,dO.of (H _ _ yi),.int h,bJ (by rw[Ws,xh];rfl),yj,xN,h,w.1,l,rfl,aD.ob H ya,H _ _ xO,x6,λQ C=>xU rfl _ Q C rfl⟩
     . intro xW xB W xA H xh h;rw[gR]at h;have xA:=jK (g:=λw:Column×Nat=>V.int (rM l w.1 (z.1.vals.getD w.2 0))) h;have h:xB=aG (keyedRow S.schema l i z.1).vals:=(by rw[xA,Hh xY xT];unfold aG;rw[WN];rfl);subst h;have xB:=H _ _ (xG _ _ xQ);left;show⟨_,.inl ⟨bG.of xh,λh xA=> ?_⟩⟩;have C:aD W (upd W h (.tup (aG (keyedRow S.schema l i z.1).vals))):=aD.new xA;have xA:upd W h (.tup (aG (keyedRow S.schema l i z.1).vals)) h=some (.tup (aG (keyedRow S.schema l i z.1).vals)):=av;generalize upd W h (.tup (aG (keyedRow S.schema l i z.1).vals))=Q at C xA|-;show⟨.inr ⟨_,.inl (C _ _ (H _ _ xO))⟩,qI (by lia),λT xx=>⟨_,dJ.t (aD.new xx _ _ (C _ _ (H _ _ xO))) (k:=kk ((i:Int),(z.1.id:Int))) av,?_⟩⟩;have W:=v.fT.now.w.pos i u G z.1 xR;rw[Fc x6,Wt (by lia),WQ];have xh:aD Q (upd Q T (.tup [V.int (i:Int),V.int (z.1.id:Int)])):=aD.new xx;generalize upd Q T (.tup [V.int (i:Int),V.int (z.1.id:Int)])=v at xh|-;have Q:=xh _ _ (C _ _ xB)
       have W :b.length<=8:=by
        have:=XE List.length M;rw[Wl,Wl,Xo]at this
        lia
       have xB:d7 (aL b) (Sum.inl (keyFor l i z.1.id:Int))=none:=by
        cases e:d7 (aL b) (Sum.inl (keyFor l i z.1.id:Int))with
        |none=>rfl
        |some W=>
         exfalso;have D:=tF e;rw[gx]at D;obtain⟨n,T,Y⟩:=Wy.mp D;obtain⟨W,xx,rfl⟩:=Wy.mp T;have xN:W.1∈(a.take j).map λz=>keyedRow S.schema l i z.1:=(by rw[<- M];show Xc xx);obtain⟨R,xE,T⟩:=Wy.mp xN;have xN:=aby xE
         have xx:keyFor l i R.1.id=keyFor l i z.1.id:=by
          have xu:(W.1.id:Int)=(keyFor l i z.1.id:Int):=YC Y;have Y:keyFor l i R.1.id=W.1.id:=by rw[<- T];rfl
          lia
         have yd:=v7 xF G x9 (xj.mem_iff.mp (Xc xN)) xR xx;have W:=tP xj x9;rw[gx]at W;have G:((a.take (j+1)).map λz=>(z.1.id:Int)).Nodup:=(by have T:(a.map λz=>(z.1.id:Int)).Nodup:=(by unfold List.Nodup at W|-;rw[W9]at W;show W.imp λ{X d} y e=>y (by rw[e]));show Z3 ((aaY _ _).map _) T);have W:a.take (j+1)=a.take j++[z]:=(by rw[W7,xg];rfl);rw[W,WZ]at G;show(Yx.mp G).2.2 (R.1.id:Int) (Wy.mpr ⟨R,xE,rfl⟩) (z.1.id:Int) (by simp) (by lia)
       show⟨_,m8.k (k:=Sum.inl (keyFor l i z.1.id:Int)) Q (by unfold aL;rw[Wl,Wx];lia),?_⟩;rw[jS _ xB];have W:aL b ++[((Sum.inl (keyFor l i z.1.id:Int):Key),V.ref h)]=aL (b ++[(keyedRow S.schema l i z.1,h)]):=(by unfold aL;rw[WZ];rfl);rw[W];have W:bS [q] v (upd v q (.dK (aL (b ++[(keyedRow S.schema l i z.1,h)])))):=bS.upd;have R:upd v q (.dK (aL (b ++[(keyedRow S.schema l i z.1,h)]))) q=some (.dK (aL (b ++[(keyedRow S.schema l i z.1,h)]))):=av;generalize upd v q (.dK (aL (b ++[(keyedRow S.schema l i z.1,h)])))=G at W R|-;have G:aD f v:=xG.trans (H.trans (C.trans xh));show⟨(t.trans (aD.but G _)).trans W,b ++[(keyedRow S.schema l i z.1,h)],R,?_,λX d C=> ?_⟩
       . rw[WZ,M,<- aat,W7,xg,WZ];rfl
       . have h:v d=some (.tup (aG X.vals)):=by
          rcases W0.mp C with y|y
          . show G _ _ (xS (X,d) y)
          . have e:=Xd.mp y;rw[(XU e).1,(XU e).2];show xh _ _ xA
         show W _ _ (b6 (bF h Q (by simp))) h
   . rintro x f ⟨m,r,s,b,rfl,t,xQ,M,xS⟩;rw[Y0]at M;show⟨t _ _ (b6 N.symm) L,?_⟩;have C:p≠c:=λe=>by rw[e,O _ _ g]at xC;cases xC
     have W:aD U (upd f c (.dK (aL a))):=by
      intro d o e;have Q:d≠q:=aA e E;by_cases C:d=c
      . rw[C,O _ _ g]at e;rw[C,av];show e
      . rw[aF C];show t _ _ (b6 Q) (xr _ _ (b6 C) (xV _ _ e))
     have H:upd f c (.dK (aL a)) q=some (.dK (aL b)):=(by rw[aF N];show xQ);have Q:∀z∈b,upd f c (.dK (aL a)) z.2=some (.tup (aG z.1.vals)):=λz J=>(by have h:=xS z J;rw[aF (λe=>by rw[e,t _ _ (b6 N.symm) L]at h;cases h)];show h);generalize upd f c (.dK (aL a))=xM at W H Q|-;left;have C:=W _ _ xC;have h:bS [p] xM (upd xM p (.lst (A.map V.ref++[.ref q]))):=bS.upd;have G:(b.map (·.1)).Perm (A4 S.schema l i u):=(by rw[M];have D:=xj.map (keyedRow S.schema l i);rw[WN]at D;show D.trans yf.symm);show⟨⟨_,bG.of C⟩,_,C,by rw[Wl,Wx];lia,λd o e=>h _ _ (b6 (aA e x8)) (W _ _ (O _ _ e)),A++[q],by simp,?_⟩;rw[W7,ye,WZ];show eH (Rows.but (Rows.same yh W) C h) (.cons (dm.but ⟨q,b,rfl,H,Q,G,yg⟩ C h) .nil)
 . rintro x xX ⟨xH,xJ,xK,m,r,s,A,rfl,xq,xP,Z⟩;rw[W2 (by unfold keyed;rw[Wl,Xr];lia)]at Z;left;show k _ xX xq ⟨p,_,rfl,xP,Z⟩
noncomputable def Ff (k:Ky):ah Int:=[(k.1:Int),(k.2.1:Int),(k.2.2:Int)]
inductive IG(cc:aC->ai)(d:ah V)(H:Hp)(Q:VK)(e:XK):Prop
 |mk (a b c:ai) (S:aI) (_:d=[.ref a]) (_:kQ cc H a b c S) (_:Out cc H a b c (Vauowc.step S .flush) Q):IG cc d H Q e
theorem wc(a:En P w K B base CT cc I):fc P w K B base CT "flush_tables" 4 ["session"] (IG cc):=by
 show cg a a.fs.uh ["session","changes","keys","tables","broken","told","place","key"] λf k A i s H o Q E c h b T=> ?_;obtain⟨r,o,u,S,rfl,g,k⟩:=h
 show⟨_,(aK (aP 1 b.nd (aR (kO a) c aM (aj (pw 0) ao)))
  (aK (aP 2 b.nd (aR (E9 a) c aM (aj (pw 0) ao)))
  (aK (aP 3 b.nd (aR (Fe a) c aM (aj (aW T.aH T.bq (pw 0)) (aj (aW T.aH T.aZ (pw 0)) (aj (pw 2) ao)))))
  (aK (aP 4 b.nd (aR (nH a) c aM (aj (aW T.aH T.bq (pw 0)) (aj (pw 3) ao))))
  (aK (bz (aQ p5 (bw b5 rfl T.cO Xy (aj (pw 4) ao)) aO (a_ _))
  (au (aJ (ef mY (bI (aj aO ao)) (pw 4))))
  aN)
  (aK (bP (di T.aH (iG a) c aM (pw 0) (aj (aW T.aH T.bq (pw 0)) (aj (pw 3) ao))))
  (aK (aP 5 b.nd (bI (aj aO (aj (bw b5 rfl T.cO Xy (aj (pw 1) ao)) (aj (bw Aj rfl T.cO Xy (aj (pw 2) ao)) ao)))))
  (aK (HQ (cS WT rfl (Js (pv 2)) (gf (n:=2) rfl (bU (bh 6 b.nd) (bU (bh 7 b.nd) eO)))
  (au (bP (fB W8 Yg YG jH (pw 5) (aj (bI (aj (bH gh (pw 6) aO) (aj (bH gh (pw 6) aO) (aj (pw 7) ao)))) ao))))))
  (au (aJ (pw 5))))))))))),?_⟩
 have m:=g.1;obtain⟨t,a,i,b,c,n,s⟩:=g.2.read;replace k:Out cc H r o u (flushing S) Q:=k;have y:(changesOf S.session).length=(eN S).length:=by unfold eN;rw[Wl]
 left;show⟨r,o,u,S,rfl,g,λJ a E b C c A=> ?_⟩;have N:a.length=(eN S).length:=aT c;left;show⟨r,o,u,S,rfl,⟨m,fu.same g.2 b⟩,λd a z x c M=> ?_⟩;have a:=b.trans z;obtain⟨D,L⟩:=Hg m c;left;show⟨_,aD.ob a n,_,rfl,_,aD.ob a n,_,rfl,t,i,d,S,rfl,eL.same s.wm a,cV.same s.now a,m,x,c,λG A b E=> ?_⟩;have c:=a.trans b;left;show⟨_,aD.ob c n,_,rfl,t,G,S.schema,_,rfl,eL.same s.wm c,E,m.so,D.w.fit,λA h a i=> ?_⟩;left;show⟨_,.inl (bG.of i),?_⟩;have t:=c.trans a;have v:(aG (brk (brokenIn S.schema (keyed S.schema S.session)).head?)).length=(brk (brokenIn S.schema (keyed S.schema S.session)).head?).length:=Wl _;unfold flushing Vauowc.flushed at k;cases e:(brokenIn S.schema (keyed S.schema S.session)).head? with
 |some c=>rw[e]at k i v;rw[Wt (show 0<(aG (brk (some c))).length from by rw[v];change 0<4;lia)];show⟨qI (by lia),λp f=>⟨p,A,_,_,rfl,rfl,av,aD.new f _ _ i,by rw[v,Wx];change 1+4<=_;lia,λq h=>Out.same (S:=S) (l:=1::toInts [c.code,c.table,c.id,c.column]) k g (t.trans ((aD.new f).trans (aD.new h))) av⟩⟩
 |none=>
  rw[e]at k i;rw[Wn (by simp[brk])];replace k:Out cc H r o u ({schema:=S.schema,session:=Vauowc.fresh (keyed S.schema S.session),past:=[],undone:=[]},0::((changesOf S.session).length:Int)::((keysOf S.session).length:Int)::(keysOf S.session).flatMap Ff) Q:=k;rw[y]at k;obtain⟨i,o⟩:=aD.ob t n;left;show⟨i,_,o,rfl,_,⟨i,o⟩,_,rfl,?_⟩;show Out.hold k g t (eL.same s.wm t) (cV.same E a) (nQ m.so D L) λi y kk=> ?_;have H:=y _ _ (b6 (bF ((z.trans (b.trans a)) _ _ C) o (by simp))) ((z.trans (b.trans a)) _ _ C);have m:=y _ _ (b6 (bF ((b.trans a) _ _ x) o (by simp))) ((b.trans a) _ _ x);generalize a:keysOf S.session=l at k kk M m;left;show⟨_,.inl (bG.of H),_,m,qI (by lia),λp f=> ?_⟩;rw[N,Wl];have C:aD i (upd i p (.lst [V.int 0,V.int ((eN S).length:Int),V.int (l.length:Int)])):=aD.new f;have H:upd i p (.lst [V.int 0,V.int ((eN S).length:Int),V.int (l.length:Int)]) p=some (.lst (aG (0::((eN S).length:Int)::(l.length:Int)::(l.take 0).flatMap Ff))):=av;generalize upd i p (.lst [V.int 0,V.int ((eN S).length:Int),V.int (l.length:Int)])=b at C H|-;have k:=C _ _ m;have o:p≠d:=λg=>by rw[g,m]at f;cases f
  left;show⟨d,_,k,True.intro,λa=> ?_⟩;have n:upd b d (HO.dI a (.dT (l.map jr))) d=some (.dI a (.dT (l.map jr))):=av;have z:bS [d] b (upd b d (HO.dI a (.dT (l.map jr)))):=bS.upd;have k:=z _ _ (b6 o) H;generalize upd b d (HO.dI a (.dT (l.map jr)))=H at n z k|-;have b:(l.map jr).length=l.length:=Wl _;show⟨_,rfl,d,a,l.map jr,rfl,n,Cj (J:=Qk d a (l.map jr)) l.length (λj u b =>MP λ(s t:az V)(acc:ah Int)=>Jt (u=[some (.ref r),some (.ref J),some (.ref d),some G,some (.ref A),some (.ref p),s,t]) (bS [p] H b) (b p=some (.lst (aG acc))) (acc=0::((eN S).length:Int)::(l.length:Int)::(l.take j).flatMap Ff) (acc.length<=3+3*j)) ⟨none,none,_,rfl,bS.refl _ _,k,rfl,by simp⟩ ?_ ?_ ?_ ?_⟩
  . rintro j u a r ⟨s,t,acc,rfl,b,_⟩;show⟨b _ _ (b6 o.symm) n,by lia⟩
  . rintro u a ⟨s,t,acc,rfl,b,_⟩;show⟨b _ _ (b6 o.symm) n,by lia⟩
  . rintro j J u a x r ⟨s,t,acc,rfl,b,A,v,G⟩ ⟨T,q,k,D,H,h,rfl,E,rfl⟩;obtain⟨k,D⟩:∃k,l[j]? =some k:=⟨_,Wr r⟩;rw[Ws,D]at H;cases H;have h:a q=some (.tup [.int (k.1:Int),.int (k.2.1:Int)]):=h;have r:aD a (upd a T (.tup [.ref q,V.int (k.2.2:Int)])):=aD.new E;have H:upd a T (.tup [.ref q,V.int (k.2.2:Int)]) T=some (.tup [.ref q,V.int (k.2.2:Int)]):=av;generalize upd a T (.tup [.ref q,V.int (k.2.2:Int)])=x at r H|-;have T:=r _ _ A;have E:(aG acc).length=acc.length:=Wl _;walk_at "v";show g2 (dO.of H) ?_;left;show⟨⟨_,bG.of T⟩,_,dO.of (r _ _ h),_,dF (j:=0) rfl rfl,_,dO.of (r _ _ h),_,dF (j:=1) rfl rfl,qI (by lia),λq H=>⟨aG acc,aD.new H _ _ T,by rw[E,Wx];lia,((b.trans (aD.but r _)).trans (aD.but (aD.new H) _)).trans bS.upd,acc++Ff k,by simp[Ff],?_,by rw[WY];change acc.length+3<=_;lia⟩⟩;rw[v,W7,D,YB];simp
  . rintro u a ⟨s,t,acc,rfl,b,A,v,G⟩;show⟨b _ _ (b6 o.symm) n,?_⟩;rw[Y0]at v
    have k:aD i (upd a d (.dT (l.map jr))):=by
     intro c H g;have H:=aA g f;by_cases e:c=d
     . rw[e,m]at g;rw[e,av];show g
     . rw[aF e];show b _ _ (b6 H) (z _ _ (b6 e) (C _ _ g))
    have T:upd a d (.dT (l.map jr)) p=some (.lst (aG acc)):=(by rw[aF o];show A);generalize upd a d (.dT (l.map jr))=x at k T|-;left;rw[v]at T;show kk p x (y.trans (aD.but k _)) k T
section
open VauowBase
theorem iK{c d e:Type}{x:Except e c}{f:c->Except e d}{b:d}(h:x.bind f= .ok b):∃a,x= .ok a/\f a= .ok b:=by
 cases x with
 |error e=>cases h
 |ok a=>show⟨a,rfl,h⟩
theorem mE:∀n l a c,readColumns n l a= .ok c->c.1.length<=l.length+n
 |0,l,a,c,h=>by rw[readColumns]at h;split at h;cases h;show Wu _;cases h
 |n+1,l,a,c,h=>by
  rw[readColumns]at h;split at h;cases h;change l.length<=_
  lia
  obtain⟨w,_,h⟩:=iK h;split at h;cases h;obtain⟨q,_,h⟩:=iK h;obtain⟨k,_,h⟩:=iK h;obtain⟨r,_,h⟩:=iK h;have:=mE n _ _ _ h;rw[WY]at this;simp only[WG,Xj]at this
  lia
theorem o_:∀n l a r,(∀t∈l,t.columns.length<=4)->readTables n l a= .ok r->r.length<=l.length+n/\∀t∈r,t.columns.length<=4
 |0,l,a,r,b,h=>by rw[readTables]at h;split at h;cases h;show⟨Wu _,b⟩;split at h<;>cases h
 |n+1,l,a,r,b,h=>by
  rw[readTables]at h;split at h;cases h;show⟨by lia,b⟩;obtain⟨q,_,h⟩:=iK h;obtain⟨w,_,h⟩:=iK h;split at h;cases h;obtain⟨a,_,h⟩:=iK h;obtain⟨d,a,h⟩:=iK h;have c:=mE _ _ _ _ a
  have:=o_ n _ _ r (λt a=>by
   rcases W0.mp a with a|a
   show b t a;rw[Xd.mp a];change d.1.length<=4;unfold COLUMNS at c;simpa using c) h
  rw[WY]at this;simp only[WG,Xj]at this;show⟨by lia,this.2⟩
def My(n:Nat)(k:VauowBase.Kind):Prop:=match k with| .ref u _ _=>u<n|_=>True
theorem pe l:∀c r,columnsFor l c= .ok r->r.length=c.length/\∀x∈r,My l.length x.kind
 |[],r,h=>by cases h;show⟨rfl,λx d=>by cases d⟩
 |a::c,r,h=>by
  have h:(kindFor l a.kind).bind (λk=>(columnsFor l c).map λz=>{name:=a.name,kind:=k,unique:=a.unique}::z)= .ok r:=h;obtain⟨k,b,h⟩:=iK h;cases e:columnsFor l c with
  |error j=>rw[e]at h;cases h
  |ok z=>
   rw[e]at h;cases h;obtain⟨g,i⟩:=pe l c z e;show⟨by change z.length+1=c.length+1;rw[g],λx d=> ?_⟩;rcases WB.mp d with rfl|d
   unfold kindFor at b;split at b;cases b;trivial;split at b;rename_i t f;cases b;unfold indexOf at f;show(Z6.mp f).1;cases b;show i x d
theorem qD(l:ah RawTable):∀(b:ah RawTable)(s:Schema),b.foldr (λx r=>(columnsFor l x.columns).bind λc=>r.map λz=>{name:=x.name,columns:=c}::z) (.ok [])= .ok s->s.length=b.length/\∀t∈s,(∃x∈b,t.columns.length=x.columns.length)/\∀c∈t.columns,My l.length c.kind
 |[],s,h=>by cases h;show⟨rfl,λt d=>by cases d⟩
 |a::b,s,h=>by
  rw[List.foldr_cons]at h;obtain⟨c,f,h⟩:=iK h;cases e:b.foldr (λx r=>(columnsFor l x.columns).bind λc=>r.map λz=>({name:=x.name,columns:=c}:Table)::z) (.ok [])with
  |error c=>rw[e]at h;cases h
  |ok z=>
   rw[e]at h;cases h;obtain⟨c,h⟩:=qD l b z e;obtain⟨e,r⟩:=pe l _ _ f;show⟨by change z.length+1=b.length+1;rw[c],λt d=> ?_⟩;rcases WB.mp d with rfl|d
   show⟨⟨a,WD,e⟩,r⟩;obtain⟨⟨x,e,b⟩,c⟩:=h t d;show⟨⟨x,Wz _ e,b⟩,c⟩
theorem zv{t:Text}{s:Schema}(h:readSchema t= .ok s):AJ s:=by unfold readSchema at h;obtain⟨l,c,h⟩:=iK h;obtain⟨b,d⟩:=o_ _ _ _ _ (λt a=>by cases a) c;obtain⟨f,c⟩:=qD l l s h;unfold TABLES at b;simp only[Xj]at b;show⟨by lia,λt a=> ?_,λt a b h=> ?_⟩;obtain⟨⟨x,s,e⟩,_⟩:=c t a;rw[e];show d x s;have:=(c t a).2 b h;unfold My at this;rw[f];show this
end
theorem II{h c:Type}:∀{b:ah h}{a:ah c},b.length=a.length->(b.zip a).map (·.2)=a
 |[],[],_=>rfl
 |[],_::_,h=>by simp at h
 |_::_,[],h=>by simp at h
 |_::b,_::a,h=>by rw[abP,WM,II (by simpa using h)]
theorem Mz(s:Schema):(s.map λt=>(t.columns.length:Int)).sum=(((s.map λt=>t.columns.length).foldl (λa b=>a+b) 0:Nat):Int):=by
 have s:∀(l:ah Nat)(a:Nat),((l.foldl (λa b=>a+b) a:Nat):Int)=(a:Int)+(l.map λn:Nat=>(n:Int)).sum:=by
  intro l
  induction l with
  |nil=>intro a;simp
  |cons b l t=>
   intro a;rw[YW,t,WM,aa5]
   lia
 rw[s,WN];simp;rfl
inductive MA(K:ay)(cc:aC->ai)(e:ah V)(H:Hp)(Q:VK)(f:XK):Prop
 |mk (a c d:ai) (S:aI) (b:ai) (l:ah Int) (_:e=[.ref a,.ref b]) (_:kQ cc H a c d S) (_:H b=some (.lst (aG l))) (_:l.length<=5000) (_:Out cc H a c d (Vauowc.step S (.load l)) Q):MA K cc e H Q f
theorem Fg(Q:En P w K B base CT cc I):fc P w K B base CT "load_text" 14 ["session","text"] (MA K cc):=by
 show cg Q Q.fs.C_ ["session","text","schema","fault","number","columns"] λf zf yW zu zy H zE xE yZ a h sc T=> ?_;obtain⟨yb,x9,yd,W,x6,l,rfl,F,C,zm,k⟩:=h
 show⟨_,(aK (bz (gM (dg (bw (Gb rfl) rfl T.Al boot_all (aj (ju (own:=[("number",4)]) rfl sc.nd (cC (pv 1)) (cY (N:=["session","text","schema","fault","number","columns"]) (sc:=bD ki) (by decide+kernel)) (λ_ _ _ _ _=>(bh 4 sc.nd)) (λ_ _ _ _ _=>fU) (λ_ _ _ _ _=>(Dm mV mV aO (pv 4) (bA rfl T.kD)))) ao))))
  (au (aJ (bI (aj (bA rfl T.n8) ao))))
  aN)
  (aK (bz (aQ p5 (bw b5 rfl T.cO Xy (aj (pv 1) ao)) (bA rfl T.kE) (a_ _))
  (au (aJ (bI (aj (bA rfl T.gE) ao))))
  aN)
  (aK (P9 T.fx rfl rfl rfl rfl sc.nd (i:=3) rfl rfl rfl T.tf (λy9 yS yU yH=>(au (aP 2 sc.nd (aR (xD Q) a yH (aj (pv 1) ao))))) (λyX yS yU Z xY x8 yf=>(au (aJ (bI (aj aO (aj (P6 T.fx yf (pv 3) rfl) (aj (P7 T.fx yf (pv 3) rfl) ao))))))))
  (aK (bP (di T.aH (iG Q) a aM (pv 0) (aj (pv 2) (aj (ju (own:=[("columns",5)]) rfl sc.nd (cC (pv 2)) (cY (N:=["session","text","schema","fault","number","columns"]) (sc:=bD ki) (by decide+kernel)) (λ_ _ _ _ _=>(bh 5 sc.nd)) (λ_ _ _ _ _=>fU) (λ_ _ _ _ _=>qb)) ao))))
  (au (aJ (bI (aj aO (aj (bw b5 rfl T.cO Xy (aj (pv 2) ao)) (aj (bw (Py rfl) rfl T.H9 boot_sum (aj (ju (own:=[("columns",5)]) rfl sc.nd (cC (pv 2)) (cY (N:=["session","text","schema","fault","number","columns"]) (sc:=bD ki) (by decide+kernel)) (λ_ _ _ _ _=>(bh 5 sc.nd)) (λ_ _ _ _ _=>fU) (λ_ _ _ _ _=>(bw (show fz _ (.builtin "len") (Qc K)from b5) rfl T.cO Xy (aj (pv 5) ao)))) ao)) ao)))))))))),?_⟩
 have zz:=F.1;obtain⟨zA,zp,zq,zx,zC,yD,zo⟩:=F.2.read
 replace k:Out cc H yb x9 yd (if noBytes l=true then(W,[-1])else if TEXT<l.length then(W,[-2])else(match readSchema (toNats l)with
  | .error f=>(W,[1,(f.1:Int),(f.2:Int)])
  | .ok p=>({schema:=p,session:=Vauowc.fresh (emptyDb p),past:=[],undone:=[]},0::toInts [p.length,(p.map λt=>t.columns.length).foldl (λX G=>X+G) 0]))) xE:=k
 left;rw[gj];show⟨_,rfl,x6,rfl,⟨_,bG.of C⟩,?_⟩;dsimp only;show kM l (λ_=>true) (λz x _=>x= .int z) (λD H z y=>y= .bl (decide (0<=z)&&decide (z<=255))) (by rw[Wx];lia) (λ_ _ _ _ _ h _=>h) (iJ (bG.of C)).1 (iJ (bG.of C)).2.1 (iJ (bG.of C)).2.2 ?_ ?_;rintro D z x xx xG xF b xg u xh rfl r xZ;have r:=λy h=>r rfl y xx (aD.refl _) h;left;by_cases R:0<=z;rw[Wt R];show r _ ?_;rw[WK R,ZU];rw[Wn R];show r _ ?_;rw[WC R,aaJ];intro D U xx xg u yi xP;rw[gR]at xP;have yL:=jK (g:=λz:Int=>V.bl (decide (0<=z)&&decide (z<=255))) xP;have yM:U=(l.map λz=>(decide (0<=z)&&decide (z<=255))).map V.bl:=by rw[yL,WN];rfl
 subst yM;have yx:(aG l).length=l.length:=Wl _;show⟨D,rfl,_,bG.of yi,?_⟩
 have xJ:(false∈l.map λz:Int=>(decide (0<=z)&&decide (z<=255)))↔noBytes l=true:=by
  unfold noBytes;rw[Wy,X7];constructor;rintro⟨n,J,c⟩;show⟨n,J,?_⟩;simp only[Zz,X8]at c;simp only[ZV,XA]
  lia
  rintro⟨n,J,c⟩;show⟨n,J,?_⟩;simp only[ZV,XA]at c;simp only[Zz,X8]
  lia
 by_cases L:noBytes l=true;rw[Wt (xJ.mpr L)];rw[Wt L]at k;show⟨qI (by lia),λp m=>k.new F u m⟩;rw[Wn (λz=>L (xJ.mp z))];rw[Wn L]at k;left;show⟨_,.inl (bG.of (u _ _ C)),?_⟩;rw[yx];by_cases c:TEXT<l.length;rw[Wt c]at k;rw[Wt (by unfold TEXT at c;lia)];show⟨qI (by lia),λp m=>k.new F u m⟩;rw[Wn c]at k;rw[Wn (by unfold TEXT at c;lia)]
 have xM:∀n∈l,0<=n/\n<=255:=by
  intro n A;have:¬((decide (n<0)||decide (255<n))=true):=λz=>L (X7.mpr ⟨n,A,z⟩);simp only[ZV,XA]at this
  lia
 have yC:(toNats l).map (λn:Nat=>V.int (n:Int))=aG l:=by unfold toNats;rw[WN];show Xv λn A=> ?_;change V.int ((n.toNat:Nat):Int)=V.int n;rw[aaD (xM n A).1]
 walk_at "l";change P8 _ _ _ _ _ _ _;unfold P8;left;show⟨x6,toNats l,rfl,by rw[yC];show bG.of (u _ _ C),by unfold toNats;rw[Wl];unfold TEXT at c;lia,λn A=> ?_,λf yq xA xr=> ?_,λsc zD xA xR xr xS=> ?_⟩;unfold toNats at A;obtain⟨yR,yz,rfl⟩:=Wy.mp A;have:=xM yR yz
 lia
 rw[yq]at k;intro xY x8 Z yu yF zk;have yw:xY=(f.1:Int):=by injection yu with h;show h.symm
 have yG:x8=f.2:=by injection yF with h;show h.symm
 subst yw yG;show⟨.ref Z,rfl,rfl,.ref Z,rfl,rfl,qI (by lia),λp m=> ?_⟩;show Out.new (l:=[1,(f.1:Int),(f.2:Int)]) k F (u.trans xr) m;rw[xR]at k;replace k:Out cc H yb x9 yd ({schema:=sc,session:=Vauowc.fresh (emptyDb sc),past:=[],undone:=[]},0::toInts [sc.length,(sc.map λt=>t.columns.length).foldl (λX G=>X+G) 0]) xE:=k;have yc:=zv xR;have yJ:=xS;right;obtain⟨ye,g,rfl,E,xW⟩:=yJ;have xq:=aT xW;have zl:=yc.few;have ya:=u.trans xr;obtain⟨yh,xT⟩:=aD.ob ya yD;left;show⟨yh,_,xT,rfl,?_⟩;rw[gj];show⟨_,rfl,ye,rfl,⟨_,bG.of E⟩,?_⟩;dsimp only;show kM g (λ_=>true) (λz x _=>x=z) (λD H z y=>∃q,y= .ref q/\q≠D/\H q=some (.dK [])) (by rw[Wx];lia) ?_ (jn (bG.of E)).1 (jn (bG.of E)).2.1 ?_ ?_ ?_;rintro D j O z y ⟨q,rfl,o,h⟩ G;show⟨q,rfl,o,G _ _ (b6 o) h⟩;intro i z j x O b v N;obtain⟨rfl,rfl⟩:=(jn (bG.of E)).2.2 i z j x O b v N;show⟨aD.refl _,rfl⟩;rintro D z x xB xG xF b xg s ⟨acc,xh⟩ rfl r xZ;left;intro q o;show r rfl _ _ (aD.new o) ⟨q,rfl,(λe=>by rw[e,xh]at o;cases o),av⟩;intro xu U xB zh s yj xj;rw[gR]at xj;have yK:U.length=sc.length:=by rw[<- xq];show aT xj
 have yp:cV xB (.ref xu) (emptyDb sc):=by
  show⟨xu,U,rfl,yj,gQ (by unfold emptyDb;rw[Wl];show yK) λi y d N a=> ?_⟩;obtain⟨z,_,q,rfl,_,o⟩:=bB xj N
  have yI:d=[]:=by
   unfold emptyDb at a;rw[Ws]at a;cases e:sc[i]? with
   |none=>rw[e]at a;cases a
   |some t=>rw[e]at a;cases a;rfl
  subst yI;show⟨q,[],rfl,o,(λz b=>by cases b),.refl _,List.Pairwise.nil⟩
 have xK:∀(t:Nat) d,(emptyDb sc)[t]? =some d->d=[]:=by
  intro t d e;unfold emptyDb at e;rw[Ws]at e;cases xH:sc[t]? with
  |none=>rw[xH]at e;cases e
  |some zB=>rw[xH]at e;cases e;rfl
 have yr:dX sc (emptyDb sc):=dX.mk' (by unfold emptyDb;rw[Wl]) λt d e=>by rw[xK t d e];show⟨Xb _,List.Pairwise.nil,λyT a=>by cases a⟩
 have yE:=nQ yc yr λt d e yT a=>by rw[xK t d e]at a;cases a
 show Out.hold k F (ya.trans s) (eL.same xS s) yp yE λzb Y kk=> ?_;have xU:=s _ _ xT;have M:=Y _ _ (b6 (bF (s _ _ E) xU (by simp))) (s _ _ E);left;show⟨_,.inl (bG.of M),?_⟩;rw[gj];show⟨_,rfl,ye,rfl,⟨_,bG.of M⟩,?_⟩;dsimp only;have xX:(g.zip sc).length=g.length:=by rw[List.length_zip];lia
 have yN:∀(i:Nat) z,(g.zip sc)[i]? =some z->g[i]? =some z.1:=λi z h=>by have:=aaU.mp h;show this.1
 have yO:∀z∈g.zip sc,Eo cc xA z.1 z.2:=λz b=>by obtain⟨i,xO⟩:=XZ.mp b;have h:=aaU.mp xO;obtain⟨t,xV,yt⟩:=bB xW h.1;rw[h.2]at xV;cases xV;show yt
 show kM (g.zip sc) (λ_=>true) (λz x _=>x=z.1) (λD H z y=>y= .int (z.2.columns.length:Int)) (by rw[xX,Wx];lia) (λ_ _ _ _ _ h _=>h) (λi j xO v=>(jn (bG.of M)).1 i j (by lia) v) (λj v=>by rw[xX];show(jn (K:=K) (bG.of M)).2.1 j v) ?_ ?_ ?_;intro i z j x O b v N;obtain⟨rfl,rfl⟩:=(jn (bG.of M)).2.2 i z.1 j x O (yN i z b) v N;show⟨aD.refl _,rfl⟩;rintro D z x xC xG xF b xg S xh rfl r xZ;right;obtain⟨zc,zg,e,xN,yo⟩:=yO z b;walk_at "u";have ym:=aT yo;have yl:=S _ _ (Y _ _ (b6 (bF (s _ _ xN) xU (by simp))) (s _ _ xN));rw[e];left;show⟨_,.inl (bG.of yl),?_⟩;rw[ym];show r rfl _ xC (aD.refl _) rfl;intro yg yV xC zj S yk xQ;rw[gR]at xQ;have yP:=jK (g:=λz:V×Table=>V.int (z.2.columns.length:Int)) xQ
 have yQ:yV=(sc.map λt=>(t.columns.length:Int)).map V.int:=by
  have h:=II xq;have J:((g.zip sc).map (·.2)).map (λt:Table=>V.int (t.columns.length:Int))=(g.zip sc).map λz=>V.int (z.2.columns.length:Int):=by rw[WN];rfl
  rw[yP,<- J,h,WN];rfl
 subst yQ;show⟨yg,rfl,_,bG.of yk,qI (by lia),λp m=> ?_⟩;rw[Mz,xq];show kk p _ (Y.trans ((aD.but S _).trans (aD.but (aD.new m) _))) (S.trans (aD.new m)) av
inductive mh:aC->ah Int->ah Int->Call->Prop
 |new (t:Int) (l:ah Int):mh "new" [t] l (.new t l)
 |set (t i c v:Int) (l:ah Int):mh "set" [t,i,c,v] l (.set t i c v)
 |remove (t i:Int) (l:ah Int):mh "remove" [t,i] l (.remove t i)
 |back (t i:Int) (l:ah Int):mh "back" [t,i] l (.back t i)
 |relist (t i u c:Int) (l:ah Int):mh "relist" [t,i,u,c] l (.relist t i u c l)
 |refresh (t i:Int) (l:ah Int):mh "refresh" [t,i] l (.refresh t i)
inductive sG:aC->ah Int->Call->Prop
 |list (t i u c:Int):sG "list" [t,i,u,c] (.list t i u c)
 |row (t i:Int):sG "row" [t,i] (.row t i)
 |find (t c v:Int):sG "find" [t,c,v] (.find t c v)
 |changed:sG "changed" [] .changed
 |tables:sG "tables" [] .tables
inductive qE:aC->ah Int->Call->Prop
 |load (l:ah Int):qE "load" l (.load l)
 |fill (l:ah Int):qE "fill" l (.fill l)
 |undo (l:ah Int):qE "undo" l .undo
 |redo (l:ah Int):qE "redo" l .redo
 |flush (l:ah Int):qE "flush" l .flush
 |rollback (l:ah Int):qE "rollback" l .rollback
def MB(w:aC)(a l:ah Int)(c:Call):Prop:=mh w a l c∨sG w a c∨qE w l c
inductive MC(cc:aC->ai)(h:ah V)(H:Hp)(Q:VK)(i:XK):Prop
 |mk (a f g:ai) (S:aI) (x:aC) (d b:ai) (e l:ah Int) (c:Call) (_:h=[.ref a,.str x,.ref d,.ref b]) (_:kQ cc H a f g S) (_:H d=some (.lst (aG e))) (_:H b=some (.lst (aG l))) (_:l.length<=5000) (_:mh x e l c) (_:Out cc H a f g (Vauowc.step S c) Q):MC cc h H Q i
inductive O1(cc:aC->ai)(g:ah V)(H:Hp)(Q:VK)(h:XK):Prop
 |mk (a e f:ai) (S:aI) (x:aC) (b:ai) (d:ah Int) (c:Call) (_:g=[.ref a,.str x,.ref b]) (_:kQ cc H a e f S) (_:H b=some (.lst (aG d))) (_:sG x d c) (_:Out cc H a e f (Vauowc.step S c) Q):O1 cc g H Q h
inductive O2(cc:aC->ai)(f:ah V)(H:Hp)(Q:VK)(g:XK):Prop
 |mk (a d e:ai) (S:aI) (x:aC) (b:ai) (l:ah Int) (c:Call) (_:f=[.ref a,.str x,.ref b]) (_:kQ cc H a d e S) (_:H b=some (.lst (aG l))) (_:l.length<=5000) (_:qE x l c) (_:Out cc H a d e (Vauowc.step S c) Q):O2 cc f H Q g
inductive Hi(cc:aC->ai)(h:ah V)(H:Hp)(Q:VK)(i:XK):Prop
 |mk (a f g:ai) (S:aI) (x:aC) (d b:ai) (e l:ah Int) (c:Call) (_:h=[.ref a,.str x,.ref d,.ref b]) (_:kQ cc H a f g S) (_:H d=some (.lst (aG e))) (_:H b=some (.lst (aG l))) (_:l.length<=5000) (_:MB x e l c) (_:Out cc H a f g (Vauowc.step S c) Q):Hi cc h H Q i
theorem z4(q:En P w K B base CT cc I):fc P w K B base CT "answer_deed" 6 ["session","word","numbers","row"] (MC cc):=by
 show cg q q.fs.wZ ["session","word","numbers","row"] λf b A c s H e Q E a h d T=> ?_;obtain⟨c,b,e,S,x,E,g,H,l,A,rfl,d,m,f,j,i,k⟩:=h
 show⟨_,(aK (bz (aQ cM (pw 1) cz (a_ _))
  (au (aJ (aR (yv q) a aM (aj (pw 0) (aj (bH aY (pw 2) aO) (aj (pw 3) ao))))))
  aN)
  (aK (bz (aQ cM (pw 1) cz (a_ _))
  (au (aJ (aR (EG q) a aM (aj (pw 0) (aj (bH aY (pw 2) aO) (aj (bH aY (pw 2) aO) (aj (bH aY (pw 2) aO) (aj (bH aY (pw 2) aO) ao))))))))
  aN)
  (aK (bz (aQ cM (pw 1) cz (a_ _))
  (au (aJ (aR (s7 q) a aM (aj (pw 0) (aj (bH aY (pw 2) aO) (aj (bH aY (pw 2) aO) ao))))))
  aN)
  (aK (bz (aQ cM (pw 1) cz (a_ _))
  (au (aJ (aR (Cw q) a aM (aj (pw 0) (aj (bH aY (pw 2) aO) (aj (bH aY (pw 2) aO) ao))))))
  aN)
  (aK (bz (aQ cM (pw 1) cz (a_ _))
  (au (aJ (aR (EY q) a aM (aj (pw 0) (aj (bH aY (pw 2) aO) (aj (bH aY (pw 2) aO) (aj (bH aY (pw 2) aO) (aj (bH aY (pw 2) aO) (aj (pw 3) ao)))))))))
  aN)
  (au (aJ (aR (rK q) a aM (aj (pw 0) (aj (bH aY (pw 2) aO) (aj (bH aY (pw 2) aO) ao))))))))))),?_⟩
 have q:=bG.of (K:=K) m;cases i;left;show⟨_,q,_,dF (j:=0) rfl rfl,c,b,e,S,_,g,l,rfl,d,f,k⟩
 . iterate 1 (show Ic rfl (by decide+kernel) ?_)
   left;show⟨_,q,_,dF (j:=0) rfl rfl,_,q,_,dF (j:=1) rfl rfl,_,q,_,dF (j:=2) rfl rfl,_,q,_,dF (j:=3) rfl rfl,c,b,e,S,_,_,_,_,rfl,d,k⟩
 . iterate 2 (show Ic rfl (by decide+kernel) ?_)
   left;show⟨_,q,_,dF (j:=0) rfl rfl,_,q,_,dF (j:=1) rfl rfl,c,b,e,S,_,_,rfl,d,k⟩
 . iterate 3 (show Ic rfl (by decide+kernel) ?_)
   left;show⟨_,q,_,dF (j:=0) rfl rfl,_,q,_,dF (j:=1) rfl rfl,c,b,e,S,_,_,rfl,d,k⟩
 . iterate 4 (show Ic rfl (by decide+kernel) ?_)
   left;show⟨_,q,_,dF (j:=0) rfl rfl,_,q,_,dF (j:=1) rfl rfl,_,q,_,dF (j:=2) rfl rfl,_,q,_,dF (j:=3) rfl rfl,c,b,e,S,_,_,_,_,g,l,rfl,d,f,j,k⟩
 . iterate 5 (show Ic rfl (by decide+kernel) ?_)
   left;show⟨_,q,_,dF (j:=0) rfl rfl,_,q,_,dF (j:=1) rfl rfl,c,b,e,S,_,_,rfl,d,k⟩
theorem qF(q:En P w K B base CT cc I):fc P w K B base CT "answer_question" 5 ["session","word","numbers"] (O1 cc):=by
 show cg q q.fs.pW ["session","word","numbers"] λf b A c s H e Q E a h d T=> ?_;obtain⟨c,b,e,S,x,E,H,A,rfl,d,g,f,k⟩:=h
 show⟨_,(aK (bz (aQ cM (pw 1) cz (a_ _))
  (au (aJ (aR (EZ q) a aM (aj (pw 0) (aj (bH aY (pw 2) aO) (aj (bH aY (pw 2) aO) (aj (bH aY (pw 2) aO) (aj (bH aY (pw 2) aO) ao))))))))
  aN)
  (aK (bz (aQ cM (pw 1) cz (a_ _))
  (au (aJ (aR (G8 q) a aM (aj (pw 0) (aj (bH aY (pw 2) aO) (aj (bH aY (pw 2) aO) ao))))))
  aN)
  (aK (bz (aQ cM (pw 1) cz (a_ _))
  (au (aJ (aR (Cy q) a aM (aj (pw 0) (aj (bH aY (pw 2) aO) (aj (bH aY (pw 2) aO) (aj (bH aY (pw 2) aO) ao)))))))
  aN)
  (aK (bz (aQ cM (pw 1) cz (a_ _))
  (au (aJ (aR (vV q) a aM (aj (pw 0) ao))))
  aN)
  (au (aJ (aR (yy q) a aM (aj (pw 0) ao)))))))),?_⟩
 have q:=bG.of (K:=K) g;cases f;left;show⟨_,q,_,dF (j:=0) rfl rfl,_,q,_,dF (j:=1) rfl rfl,_,q,_,dF (j:=2) rfl rfl,_,q,_,dF (j:=3) rfl rfl,c,b,e,S,_,_,_,_,rfl,d,k⟩
 . iterate 1 (show Ic rfl (by decide+kernel) ?_)
   left;show⟨_,q,_,dF (j:=0) rfl rfl,_,q,_,dF (j:=1) rfl rfl,c,b,e,S,_,_,rfl,d,k⟩
 . iterate 2 (show Ic rfl (by decide+kernel) ?_)
   left;show⟨_,q,_,dF (j:=0) rfl rfl,_,q,_,dF (j:=1) rfl rfl,_,q,_,dF (j:=2) rfl rfl,c,b,e,S,_,_,_,rfl,d,k⟩
 . iterate 3 (show Ic rfl (by decide+kernel) ?_)
   left;show⟨c,b,e,S,rfl,d,k⟩
 . iterate 4 (show Ic rfl (by decide+kernel) ?_)
   left;show⟨c,b,e,S,rfl,d,k⟩
theorem rO(a:En P w K B base CT cc I):fc P w K B base CT "answer_holding" 15 ["session","word","row"] (O2 cc):=by
 show cg a a.fs.qQ ["session","word","row"] λf c A d s H g Q E b j e T=> ?_;obtain⟨d,c,f,S,x,i,l,A,rfl,e,h,g,m,k⟩:=j
 show⟨_,(aK (bz (aQ cM (pw 1) cz (a_ _))
  (au (aJ (aR (Fg a) b aM (aj (pw 0) (aj (pw 2) ao)))))
  aN)
  (aK (bz (aQ cM (pw 1) cz (a_ _))
  (au (aJ (aR (y_ a) b aM (aj (pw 0) (aj (pw 2) ao)))))
  aN)
  (aK (bz (aQ cM (pw 1) cz (a_ _))
  (au (aJ (aR (E5 a) b aM (aj (pw 0) ao))))
  aN)
  (aK (bz (aQ cM (pw 1) cz (a_ _))
  (au (aJ (aR (E6 a) b aM (aj (pw 0) ao))))
  aN)
  (aK (bz (aQ cM (pw 1) cz (a_ _))
  (au (aJ (aR (wc a) b aM (aj (pw 0) ao))))
  aN)
  (au (aJ (aR (E7 a) b aM (aj (pw 0) ao))))))))),?_⟩
 cases m;left;show⟨d,c,f,S,i,l,rfl,e,h,g,k⟩
 . iterate 1 (show Ic rfl (by decide+kernel) ?_)
   left;show⟨d,c,f,S,i,l,rfl,e,h,g,k⟩
 . iterate 2 (show Ic rfl (by decide+kernel) ?_)
   left;show⟨d,c,f,S,rfl,e,k⟩
 . iterate 3 (show Ic rfl (by decide+kernel) ?_)
   left;show⟨d,c,f,S,rfl,e,k⟩
 . iterate 4 (show Ic rfl (by decide+kernel) ?_)
   left;show⟨d,c,f,S,rfl,e,k⟩
 . iterate 5 (show Ic rfl (by decide+kernel) ?_)
   left;show⟨d,c,f,S,rfl,e,k⟩
theorem z7(b:En P w K B base CT cc I):fc P w K B base CT "answer_call" 16 ["session","word","numbers","row"] (Hi cc):=by
 show cg b b.fs.w4 ["session","word","numbers","row"] λf a A c s H g Q E e h d T=> ?_;obtain⟨g,f,j,S,x,q,p,d,l,c,rfl,i,o,n,m,a,k⟩:=h
 show⟨_,(aK (bz (aQ nU (pw 1) (tG rfl T.tH) (by with_unfolding_all rfl))
  (au (aJ (aR (z4 b) e aM (aj (pw 0) (aj (pw 1) (aj (pw 2) (aj (pw 3) ao)))))))
  aN)
  (aK (bz (aQ nU (pw 1) (tG rfl T.kF) (by with_unfolding_all rfl))
  (au (aJ (aR (qF b) e aM (aj (pw 0) (aj (pw 1) (aj (pw 2) ao))))))
  aN)
  (au (aJ (aR (rO b) e aM (aj (pw 0) (aj (pw 1) (aj (pw 3) ao)))))))),?_⟩
 have e:=T.kj H;have r:=T.eY H;rcases a with a|a|a
 have b:∀x,mh x d l c->F9 (.str x) [.str "new",.str "set",.str "remove",.str "back",.str "relist",.str "refresh"]=true:=by intro x h;cases h<;>decide+kernel
 left;show⟨_,.inr e,rfl,by decide+kernel,?_⟩;rw[Wt (b x a)];show⟨g,f,j,S,x,q,p,d,l,c,rfl,i,o,n,m,a,k⟩;have b:∀x,sG x d c->F9 (.str x) [.str "new",.str "set",.str "remove",.str "back",.str "relist",.str "refresh"]=false/\F9 (.str x) [.str "list",.str "row",.str "find",.str "changed",.str "tables"]=true:=by intro x h;cases h<;>decide+kernel
 left;show⟨_,.inr e,rfl,by decide+kernel,?_⟩;rw[Wn (by rw[(b x a).1];simp)];left;show⟨_,.inr r,rfl,by decide+kernel,?_⟩;rw[Wt (b x a).2];show⟨g,f,j,S,x,q,d,c,rfl,i,o,a,k⟩;have b:∀x,qE x l c->F9 (.str x) [.str "new",.str "set",.str "remove",.str "back",.str "relist",.str "refresh"]=false/\F9 (.str x) [.str "list",.str "row",.str "find",.str "changed",.str "tables"]=false:=by intro x h;cases h<;>decide+kernel
 left;show⟨_,.inr e,rfl,by decide+kernel,?_⟩;rw[Wn (by rw[(b x a).1];simp)];left;show⟨_,.inr r,rfl,by decide+kernel,?_⟩;rw[Wn (by rw[(b x a).2];simp)];left;show⟨g,f,j,S,x,p,l,c,rfl,i,n,m,a,k⟩
section
open PyVauowc
theorem dU{r t:ah Int}(a:shape p=some (n,0))(h:PyFlat.call shape (p::r)=some (c,t)):n<=r.length/\c=[p::r.take n]/\t=r.drop n:=by unfold PyFlat.call at h;dsimp only at h;rw[a]at h;dsimp only at h;split at h;cases h;rename_i b;cases h;show⟨by lia,rfl,rfl⟩
theorem qG{r t:ah Int}(g:shape p=some (n,1))(h:PyFlat.call shape (p::r)=some (e,t)):∃m,n+1+m<=r.length/\r[n]? =some (m:Int)/\e=[p::r.take n,(r.drop (n+1)).take m]/\t=r.drop (n+1+m):=by
 unfold PyFlat.call at h;dsimp only at h;rw[g]at h;dsimp only at h;split at h;cases h;rename_i j;cases a:r.drop n with
 |nil=>rw[a]at h;cases h
 |cons z s=>
  have d:r[n]? =some z:=by have:=XE (λl:ah Int=>l[0]?) a;simpa[Z2]using this
  have b:r.drop (n+1)=s:=by rw[<- YS,a];rfl
  rw[a,PyFlat.rows,PyFlat.row]at h;by_cases c:0<=z/\z.toNat<=s.length;rw[Wt c]at h;cases h;have f:=XE List.length b;rw[Xu]at f;have i:=(Wo.mp d).1;show⟨z.toNat,by lia,by rw[d,aaD c.1],by rw[b],?_⟩;rw[<- b,YS];rw[Wn c]at h;cases h
structure Got(p:Int)(r t:ah Int)(c:ah (ah Int))(x:aC)(n:Nat)(b:Bool)(k:Call)(row:ah Int):Prop where
 tab:(p,x,n,b)∈mS
 len:n<=r.length
 spec:VauowcNeutral.callOf (whole c)=some k
 is:MB x (r.take n) row k
 UH:row.length<=5000
 rest:if b=true then∃m:Nat,n+1+m<=r.length/\r[n]? =some (m:Int)/\row=(r.drop (n+1)).take m/\t=r.drop (n+1+m)else row=[]/\t=r.drop n
theorem two{r:ah Int}(h:2<=r.length):∃a b,r.take 2=[a,b]:=by
 match r,h with
 |a::b::r,_=>show⟨a,b,rfl⟩
theorem three{r:ah Int}(h:3<=r.length):∃a b c,r.take 3=[a,b,c]:=by
 match r,h with
 |a::b::c::r,_=>show⟨a,b,c,rfl⟩
theorem four{r:ah Int}(h:4<=r.length):∃a b c d,r.take 4=[a,b,c,d]:=by
 match r,h with
 |a::b::c::d::r,_=>show⟨a,b,c,d,rfl⟩
theorem one{r:ah Int}(h:1<=r.length):∃a,r.take 1=[a]:=by
 match r,h with
 |a::r,_=>show⟨a,rfl⟩
theorem CD{b row:ah Int}{lo a:Int}(h:PyInside.call bound [p::b,row]=true)(c:(bound p).2=[(lo,a,0,5000)]):row.length<=5000:=by have h:(PyInside.each (bound p).1 b&&PyInside.lists (bound p).2 [row])=true:=h;rw[c,WV]at h;have p:(decide (0<=row.length)&&decide (row.length<=5000)&&row.all (PyInside.within lo a)&&PyInside.lists [] [])=true:=h.2;simp only[WV,XA]at p;show p.1.1.2
theorem got{p:Int}{r t:ah Int}{g:ah (ah Int)}(h:PyFlat.call shape (p::r)=some (g,t))(j:PyInside.call bound g=true):∃x n f k row,Got p r t g x n f k row:=by
 by_cases a:p=0;subst a;obtain⟨m,c,i,rfl,b⟩:=qG (n:=0) rfl h;show⟨"load",0,true,.load _,_,Wq (i:=0) rfl,by lia,rfl,.inr (.inr (.load _)),CD j rfl,by rw[Wt rfl];show⟨m,c,i,rfl,b⟩⟩;by_cases a:p=1;subst a;obtain⟨m,c,i,rfl,b⟩:=qG (n:=0) rfl h;show⟨"fill",0,true,.fill _,_,Wq (i:=1) rfl,by lia,rfl,.inr (.inr (.fill _)),CD j rfl,by rw[Wt rfl];show⟨m,c,i,rfl,b⟩⟩;by_cases a:p=2;subst a;obtain⟨m,c,i,rfl,b⟩:=qG (n:=1) rfl h;obtain⟨d,e⟩:=one (r:=r) (by lia);rw[e]at j;show⟨"new",1,true,.new d _,_,Wq (i:=2) rfl,by lia,by rw[e];rfl,.inl ?_,CD j rfl,by rw[Wt rfl];show⟨m,c,i,rfl,b⟩⟩;rw[e];show .new _ _;by_cases a:p=3;subst a;obtain⟨c,rfl,b⟩:=dU (n:=4) rfl h;obtain⟨d,f,g,k,e⟩:=four (r:=r) (by lia);show⟨"set",4,false,.set d f g k,[],Wq (i:=3) rfl,by lia,by rw[e];rfl,.inl ?_,Xb _,by rw[Wn (by simp)];show⟨rfl,b⟩⟩;rw[e];show .set _ _ _ _ _;by_cases a:p=4;subst a;obtain⟨c,rfl,b⟩:=dU (n:=2) rfl h;obtain⟨d,f,e⟩:=two (r:=r) (by lia);show⟨"remove",2,false,.remove d f,[],Wq (i:=4) rfl,by lia,by rw[e];rfl,.inl ?_,Xb _,by rw[Wn (by simp)];show⟨rfl,b⟩⟩;rw[e];show .remove _ _ _;by_cases a:p=5;subst a;obtain⟨c,rfl,b⟩:=dU (n:=2) rfl h;obtain⟨d,f,e⟩:=two (r:=r) (by lia);show⟨"back",2,false,.back d f,[],Wq (i:=5) rfl,by lia,by rw[e];rfl,.inl ?_,Xb _,by rw[Wn (by simp)];show⟨rfl,b⟩⟩;rw[e];show .back _ _ _;by_cases a:p=6;subst a;obtain⟨c,rfl,b⟩:=dU (n:=4) rfl h;obtain⟨d,f,g,k,e⟩:=four (r:=r) (by lia);show⟨"list",4,false,.list d f g k,[],Wq (i:=6) rfl,by lia,by rw[e];rfl,.inr (.inl ?_),Xb _,by rw[Wn (by simp)];show⟨rfl,b⟩⟩;rw[e];show .list _ _ _ _;by_cases a:p=7;subst a;obtain⟨m,c,i,rfl,b⟩:=qG (n:=4) rfl h;obtain⟨d,f,g,k,e⟩:=four (r:=r) (by lia);rw[e]at j;show⟨"relist",4,true,.relist d f g k _,_,Wq (i:=7) rfl,by lia,by rw[e];rfl,.inl ?_,CD j rfl,by rw[Wt rfl];show⟨m,c,i,rfl,b⟩⟩;rw[e];show .relist _ _ _ _ _;by_cases a:p=8;subst a;obtain⟨c,rfl,b⟩:=dU (n:=2) rfl h;obtain⟨d,f,e⟩:=two (r:=r) (by lia);show⟨"row",2,false,.row d f,[],Wq (i:=8) rfl,by lia,by rw[e];rfl,.inr (.inl ?_),Xb _,by rw[Wn (by simp)];show⟨rfl,b⟩⟩;rw[e];show .row _ _;by_cases a:p=9;subst a;obtain⟨c,rfl,b⟩:=dU (n:=3) rfl h;obtain⟨d,f,g,e⟩:=three (r:=r) (by lia);show⟨"find",3,false,.find d f g,[],Wq (i:=9) rfl,by lia,by rw[e];rfl,.inr (.inl ?_),Xb _,by rw[Wn (by simp)];show⟨rfl,b⟩⟩;rw[e];show .find _ _ _;by_cases a:p=10;subst a;obtain⟨c,rfl,b⟩:=dU (n:=0) rfl h;show⟨"changed",0,false,.changed,[],Wq (i:=10) rfl,by lia,rfl,.inr (.inl .changed),Xb _,by rw[Wn (by simp)];show⟨rfl,b⟩⟩;by_cases a:p=11;subst a;obtain⟨c,rfl,b⟩:=dU (n:=2) rfl h;obtain⟨d,f,e⟩:=two (r:=r) (by lia);show⟨"refresh",2,false,.refresh d f,[],Wq (i:=11) rfl,by lia,by rw[e];rfl,.inl ?_,Xb _,by rw[Wn (by simp)];show⟨rfl,b⟩⟩;rw[e];show .refresh _ _ _;by_cases a:p=12;subst a;obtain⟨c,rfl,b⟩:=dU (n:=0) rfl h;show⟨"undo",0,false,.undo,[],Wq (i:=12) rfl,by lia,rfl,.inr (.inr (.undo _)),Xb _,by rw[Wn (by simp)];show⟨rfl,b⟩⟩;by_cases a:p=13;subst a;obtain⟨c,rfl,b⟩:=dU (n:=0) rfl h;show⟨"redo",0,false,.redo,[],Wq (i:=13) rfl,by lia,rfl,.inr (.inr (.redo _)),Xb _,by rw[Wn (by simp)];show⟨rfl,b⟩⟩;by_cases a:p=14;subst a;obtain⟨c,rfl,b⟩:=dU (n:=0) rfl h;show⟨"flush",0,false,.flush,[],Wq (i:=14) rfl,by lia,rfl,.inr (.inr (.flush _)),Xb _,by rw[Wn (by simp)];show⟨rfl,b⟩⟩;by_cases a:p=15;subst a;obtain⟨c,rfl,b⟩:=dU (n:=0) rfl h;show⟨"rollback",0,false,.rollback,[],Wq (i:=15) rfl,by lia,rfl,.inr (.inr (.rollback _)),Xb _,by rw[Wn (by simp)];show⟨rfl,b⟩⟩;by_cases a:p=16;subst a;obtain⟨c,rfl,b⟩:=dU (n:=0) rfl h;show⟨"tables",0,false,.tables,[],Wq (i:=16) rfl,by lia,rfl,.inr (.inl .tables),Xb _,by rw[Wn (by simp)];show⟨rfl,b⟩⟩;exfalso;have a:shape p=none:=by unfold shape;simp only[*,YN]
 unfold PyFlat.call at h;dsimp only at h;rw[a]at h;cases h
def Due(l R:ah Int)(j:Nat)(S:aI)(acc:ah Int):Prop:=∃f a,PyFlat.calls shape f (l.drop j)=some a/\(∀c∈a,PyInside.call bound c=true)/\R=acc++PyFlat.told (PyFlat.played VauowcNeutral.step S (a.map whole))
theorem JW(h:answers_asked l=true):Due l (answers l) 0 Vauowc.start []/\(answers l).length<=10000000:=by
 unfold answers_asked at h;unfold Due answers calls;cases e:PyFlat.calls shape l.length l with
 |none=>rw[e]at h;cases h
 |some raw=>rw[e]at h;have h:=h;simp only[WV]at h;have a:=h.2;unfold PyFlat.short answers calls at a;rw[e]at a;show⟨⟨l.length,raw,e,λc b=> ?_,rfl⟩,XT a⟩;have a:=h.1.1.2;show X6.mp a c b
theorem N6{l R acc:ah Int}(h:Due l R j S acc)(b:l.length<=j):R=acc:=by
 obtain⟨f,l,a,_,R⟩:=h;rw[Xk b]at a;rw[R];have:l=[]:=by unfold PyFlat.calls at a;cases a;rfl
 subst this;show XJ _
theorem MD{l R acc:ah Int}(e:Due l R j S acc)(g:j<l.length):∃p r t c x n d k row,l.drop j=p::r/\Got p r t c x n d k row/\acc.length+1+(Vauowc.step S k).2.length<=R.length/\∀i,l.drop i=t->Due l R i (Vauowc.step S k).1 (acc++((Vauowc.step S k).2.length:Int)::(Vauowc.step S k).2):=by
 obtain⟨f,g,a,h,b⟩:=e;have g:(l.drop j).length=l.length-j:=Xu;cases e:l.drop j with
 |nil=>rw[e]at g;simp at g;lia
 |cons p r=>
  rw[e]at a;cases f with
  |zero=>rw[PyFlat.calls]at a;cases a
  |succ f=>
   rw[PyFlat.calls]at a;cases l:PyFlat.call shape (p::r)with
   |none=>rw[l]at a;cases a
   |some e=>
    obtain⟨c,t⟩:=e;rw[l]at a;dsimp only at a;cases e:PyFlat.calls shape f t with
    |none=>rw[e]at a;cases a
    |some g=>
     rw[e]at a;cases a;obtain⟨x,n,d,k,row,a⟩:=got l (h c WD);have l:VauowcNeutral.step S (whole c)=((Vauowc.step S k).1,(Vauowc.step S k).2):=(by unfold VauowcNeutral.step;rw[a.spec];rfl);have b:R=acc++((((VauowcNeutral.step S (whole c)).2.length:Int)::(VauowcNeutral.step S (whole c)).2)++PyFlat.told (PyFlat.played VauowcNeutral.step (VauowcNeutral.step S (whole c)).1 (g.map whole))):=b;rw[l]at b;dsimp only at b;show⟨p,r,t,c,x,n,d,k,row,rfl,a,?_,λi R=>⟨f,g,by rw[R];show e,λc l=>h c (Wz _ l),?_⟩⟩;rw[b];simp only[WY,WG]
     lia
     rw[b,Yc]
end
def IJ(K:ay)(a:ai):Prop:=∀z∈mS,∃t,Qi K a (.inl z.1) (.ref t)/\∀H,dO K H t [.str z.2.1,.int (z.2.2.1:Int),.bl z.2.2.2]
theorem MF:pK Vauowc.start:=nQ (s:=[]) (db:=[]) ⟨Xb _,(λt a=>by cases a),(λt a=>by cases a)⟩ (dX.mk' rfl λt b e=>by simp at e) λt b e=>by simp at e
theorem cV.dI(h:cV H v d)(a:H p=some (.dI od u))(b:bS [p] H c):cV c v d:=by obtain⟨g,v,rfl,H,i⟩:=h;show⟨g,v,rfl,b _ _ (b6 (bF H a (by simp))) H,bf (λ_ _⟨h,j,e,c,d,p⟩=>⟨h,j,e,b _ _ (b6 (bF c a (by simp))) c,λz f=>b _ _ (b6 (bF (d z f) a (by simp))) (d z f),p⟩) i⟩
theorem eL.dI(h:eL cc H v s)(a:H p=some (.dI od u))(b:bS [p] H c):eL cc c v s:=by obtain⟨d,p,rfl,H,k⟩:=h;show⟨d,p,rfl,b _ _ (b6 (bF H a (by simp))) H,bf (λ_ _⟨g,f,e,c,j⟩=>⟨g,f,e,b _ _ (b6 (bF c a (by simp))) c,bf (λ_ v⟨q,i,h,o⟩=>⟨q,i,h,b _ _ (b6 (bF o a (by simp))) o⟩) j⟩) k⟩
theorem mC.dI(h:mC H v x)(a:H p=some (.dI od u))(b:bS [p] H c):mC c v x:=by obtain⟨m,p,rfl,H,c⟩:=h;show⟨m,p,rfl,b _ _ (b6 (bF H a (by simp))) H,cV.dI c a b⟩
theorem fu.dI(h:fu cc H o a d S)(c:H p=some (.dI od u))(b:bS [p] H G):fu cc G o a d S:=by
 obtain⟨r,m,o,q,s,⟨j,a⟩,H,f,k,l⟩:=h;show⟨r,m,o,q,s,⟨j,b _ _ (b6 (bF a c (by simp))) a⟩,b _ _ (b6 (bF H c (by simp))) H,b _ _ (b6 (bF f c (by simp))) f,k,λd g=> ?_⟩;have i:=l (L2.upd d p (.dI od u)) λH o n e=>by by_cases a:H=p;rw[a,c]at e;rw[a,av];show e;rw[aF a];show g _ _ n (b _ _ (b6 a) e)
 have c:L2.upd d p (.dI od u) p=some (.dI od u):=av;have a:bS [p] (L2.upd d p (.dI od u)) d:=λH o n e=>by rw[aF (by simpa using n)]at e;show e
 show⟨eL.dI i.wm c a,cV.dI i.base c a,cV.dI i.now c a,bf (λ_ _ h=>mC.dI h c a) i.past,bf (λ_ _ h=>mC.dI h c a) i.L7⟩
theorem Fi(l:ah Int)(i j:Nat)(a:i<=j)(b:j<=l.length):jy (aG l) (some (i:Int)) (some (j:Int))=aG ((l.drop i).take (j-i)):=by rw[vz _ _ _ a (by rw[Wl];show b)];unfold aG;rw[aat,aa6]
def off(H:Hp)(p:ai):Hp:=λb=>if b=p then none else H b
theorem wg:off H p p=none:=Wt rfl
theorem Hj(h:b≠p):off H p b=H b:=Wn h
inductive N7(cc:aC->ai)(H:Hp)(c b p:ai)(l R:ah Int)(m:Nat)(f:L2.St)(a:Hp):Prop
 |mk (j:Nat) (S:aI) (acc:ah Int) (d e:ai) (G:Hp) (g h i k n o:az V) (_:f=[some (.ref c),some (.ref b),some (.ref p),some (.int (j:Int)),g,h,i,k,n,o]) (_:m=l.length-j) (_:aD H a) (_:H d=none) (_:H e=none) (_:G p=none) (_:aD G a) (_:kQ cc G b d e S) (_:a p=some (.lst (aG acc))) (_:Due l R j S acc):N7 cc H c b p l R m f a
def ou(K:ay):Sp:=λc H Q _=>∃(b:ai)(l:ah Int),c=[.ref b]/\bG K H b (aG l)/\l.length<=17000/\PyVauowc.answers_asked l=true/\∀(a :Hp)(p:ai),a p=some (.lst (aG (PyVauowc.answers l)))->Q (.ref p) a
theorem Hl{f:ai}{i:FuncData}(F:KR K "answers" "answers" kW f i)(u:En P w K B base CT cc I)(Z:IJ K (I "CALLS")):j7 P w K B base (XX P w CT) 17 f i ["calls"] (ou K):=by
 show SQ F ["calls","session","told","place","call","behind","numbers","row","start","reply"] (λs A J x H Y Q E m h a=> ?_) (by intro Y H Q E h;obtain⟨_,_,i,_⟩:=h;show XE List.length i) ⟨rfl,rfl,rfl,by decide+kernel,rfl,by decide+kernel,by decide+kernel⟩;have T:=u.T;obtain⟨x,l,rfl,z,i,s,xx⟩:=h
 show⟨_,(aK (aP 1 a.nd (HZ (JN u) m aM))
  (aK (aP 2 a.nd (bI ao))
  (aK (aP 3 a.nd aO)
  (aK (jQ WT (aQ rS (pv 3) (bw b5 rfl T.cO Xy (aj (pv 0) ao)) (a_ _))
  (aE (aP 4 a.nd (NC (tG rfl T.tK) (bH aY (pv 0) (pv 3))))
  (aE (aP 5 a.nd (ef gZ (ef gZ (pv 3) aO) (bH gh (pv 4) aO)))
  (aE (aP 6 a.nd (fL lI (pv 0) (ek (ef gZ (pv 3) aO)) (ek (pv 5))))
  (aE (aP 7 a.nd (bI ao))
  (aE (bz (dg (bH gh (pv 4) aO))
  (aE (aP 8 a.nd (ef gZ (pv 5) aO))
  (aE (aP 5 a.nd (ef gZ (pv 8) (bH aY (pv 0) (pv 5))))
  (au (aP 7 a.nd (fL lI (pv 0) (ek (pv 8)) (ek (pv 5)))))))
  aN)
  (aE (aP 9 a.nd (qc (aR (z7 u) m aM (aj (pv 1) (aj (bH gh (pv 4) aO) (aj (pv 6) (aj (pv 7) ao)))))))
  (aE (bP (fB W8 Xl Xq dh (pv 2) (aj (bw b5 rfl T.cO Xy (aj (pv 9) ao)) ao)))
  (aE (bP (fB W8 Yg YG jH (pv 2) (aj (pv 9) ao)))
  (au (aP 3 a.nd (pv 5))))))))))))
  (au (aJ (pv 2))))))),?_⟩
 obtain⟨c,i⟩:=JW s;generalize PyVauowc.answers l=R at c i xx;have Y:(aG l).length=l.length:=Wl _;left;intro g xu M i J;obtain⟨s,N,d⟩:=D0 (C:=cc "Session") (fs:=[]) M i J;show⟨g,xu,rfl,av,λO Q i a A C D=>⟨rfl,?_⟩⟩;left;show λp d=> ?_;have t:aD H i:=λb o e=>a _ _ (b6 (aA e M)) (s _ _ e);have U:=t.free d;have J:=s.free A;have N:=s.free C;have f:aD H (upd i p (.lst [])):=t.trans (aD.new d);left;left;show⟨N7 cc H x g p l R,⟨_,0,Vauowc.start,[],O,Q,i,none,none,none,none,none,none,rfl,rfl,f,J,N,d,aD.new d,⟨MF,D⟩,av,c⟩,?_⟩;clear f t a D A C d J N;rintro i c F ⟨j,S,acc,O,Q,xB,s,J,N,d,G,xK,rfl,rfl,f,A,C,L,xH,D,v,xr⟩;left;show⟨_,.inl (f.seq z),?_⟩;rw[Y];by_cases s:j<l.length
 . rw[Wt (by lia)];right;obtain⟨xj,r,xJ,c,xM,n,b,k,row,i,y,Y,xC⟩:=MD xr s;have xF:l[j]? =some xj:=(by have:=XE (λl:ah Int=>l[0]?) i;simpa[Z2]using this);have m:l.drop (j+1)=r:=(by rw[<- YS,i];rfl);have i:r.length=l.length-(j+1):=(by rw[<- m,Xu]);have i:=y.len;obtain⟨E,xE,X⟩:=Z _ y.tab;walk_at "u";show⟨λs i =>∃N <l.length-j,N7 cc H x g p l R N s i,λs i h=>h,?_⟩;have xG:=y.UH;have W:∀q,l.drop (j+1+q)=r.drop q:=λq=>by rw[<- m,YS]
   have xq:∀(t i:ai)(a:Hp)(d:Nat)(G:az V),aD F a->a t=some (.lst (aG (r.take n)))->a i=some (.lst (aG row))->p≠t->p≠i->j<d->l.drop d=xJ->KN (Hz (Hi cc) [] E0 (Ab (pY 1) (Ab (Pg (F8 K) (pY 4) (tC (V.int 0))) (Ab (pY 6) (Ab (pY 7) F2))))) [some (V.ref x),some (V.ref g),some (V.ref p),some (V.int (j:Int)),some (V.ref E),some (V.int (d:Int)),some (V.ref t),some (V.ref i),G,xK] a (λxg c=>(∃xh,bG K c p xh)/\∃Y,xg=V.ref Y/\∃J,(bG K c Y J∨dO K c Y J)/\∃s,c p=some (HO.lst s)/\s.length<sizeLine/\(∃xh,bG K (upd c p (HO.lst (s++[V.int (J.length:Int)]))) p xh)/\∃xA,xg=V.ref xA/\∃Z,upd c p (HO.lst (s++[V.int (J.length:Int)])) xA=some (HO.lst Z)/\s.length+1+Z.length<=sizeLine/\∃N,N <l.length-j/\N7 cc H x g p l R N [some (V.ref x),some (V.ref g),some (V.ref p),some (V.int (d:Int)),some (V.ref E),some (V.int (d:Int)),some (V.ref t),some (V.ref i),G,some xg] (upd c p (HO.lst (s++V.int (J.length:Int)::Z)))):=by
    intro t i a d G c xg Z x Y s xh;show⟨p,_,c _ _ v,True.intro,λs=> ?_⟩;have R:aD xB (upd a p (HO.dI s (HO.lst (aG acc)))):=λb o e=>(by rw[aF (aA e L)];show c _ _ (xH _ _ e));have J:aD H (upd a p (HO.dI s (HO.lst (aG acc)))):=λb o e=>(by rw[aF (aA e U)];show c _ _ (f _ _ e));have N:upd a p (HO.dI s (HO.lst (aG acc))) t=some (.lst (aG (r.take n))):=(by rw[aF x.symm];show xg);have x:upd a p (HO.dI s (HO.lst (aG acc))) i=some (.lst (aG row)):=(by rw[aF Y.symm];show Z);have Z:upd a p (HO.dI s (HO.lst (aG acc))) p=some (.dI s (.lst (aG acc))):=av;generalize upd a p (HO.dI s (HO.lst (aG acc)))=Y at R J N x Z|-;left;show⟨_,X Y,_,dF (j:=0) rfl rfl,g,O,Q,S,xM,t,i,r.take n,row,k,rfl,⟨D.1,fu.same D.2 R⟩,N,x,xG,y.is,?_⟩;intro x N R i Y xA xG xg t;have s:=M;have xB:p≠g:=(by obtain⟨_,_,_,_,_,⟨xu,s⟩,_⟩:=D.2;show(aA s L).symm);have xu:p≠O:=(by obtain⟨_,_,_,_,_,_,s,_⟩:=D.2;show(aA s L).symm);have O:p≠Q:=(by obtain⟨_,_,_,_,_,_,_,s,_⟩:=D.2;show(aA s L).symm);have D:=Y _ _ (by simp[xB,xu,O]) Z;have Z:x≠p:=λe=>(by rw[e,D]at t;cases t);have L:aD H i:=λb o e=>Y _ _ (by simp[aA e M,aA e A,aA e C]) (J _ _ e)
    have Q:H N =none:=by
     rcases xA with e|e
     . rw[e];show A
     . show J.free e
    have A:H R =none:=by
     rcases xG with e|e
     . rw[e];show C
     . show J.free e
    have Y:aD H (upd i p (HO.lst (aG acc))):=λb o e=>(by rw[aF (aA e U)];show L _ _ e);have O:upd i p (HO.lst (aG acc)) x=some (.lst (aG (Vauowc.step S k).2)):=(by rw[aF Z];show t);have Y:upd i p (HO.lst (aG acc)) p=some (.lst (aG acc)):=av
    have J:aD (off i p) (upd i p (HO.lst (aG acc))):=λb o e=>by
     by_cases H:b=p
     . rw[H,wg]at e;cases e
     . rw[Hj H]at e;rw[aF H];show e
    have C:fu cc (off i p) g N R (Vauowc.step S k).1:=fu.dI xg.2 D λb o n e=>(by have H:b≠p:=(by simpa using n);rw[Hj H];show e);have J:(aG acc).length=acc.length:=Wl _;have J:(aG (Vauowc.step S k).2).length=List.length (Vauowc.step S k).2:=Wl _;show⟨D,⟨_,bG.of Y⟩,x,rfl,_,.inl (bG.of O),by rw[Wx];lia,⟨_,bG.of av⟩,x,rfl,_,by rw[aF Z];show t,by rw[J,Wx];lia,l.length-d,by lia,?_⟩;show⟨d,(Vauowc.step S k).1,acc++(List.length (Vauowc.step S k).2:Int)::(Vauowc.step S k).2,N,R,off i p,_,_,_,_,_,_,rfl,rfl,?_,Q,A,wg,?_,⟨xg.1,C⟩,?_,xC d xh⟩
    . intro b o e;rw[aF (aA e U)];show L _ _ e
    . intro b o e;have i:=e;by_cases H:b=p
      . rw[H,wg]at e;cases e
      . rw[aF H];rw[Hj H]at e;show e
    . rw[av,J];simp[aG]
   unfold Oz;left;have J:∀(q:Nat)(i:Int),l[q]? =some i->(aG l)[q]? =some (.int i):=λq i h=>(by unfold aG;rw[Ws,h];rfl);show⟨_,f.seq z,.int xj,dF (j:=j) rfl (J _ _ xF),.inl xj,rfl,.ref E,xE,E,rfl,_,X F,.int (n:Int),dF (j:=1) rfl rfl,(n:Int),rfl,_,f.seq z,λH x d i=> ?_⟩;have u:(j:Int)+1+(n:Int)=((j+1+n:Nat):Int):=(by lia);have N:jy (aG l) (some ((j:Int)+1)) (some ((j:Int)+1+(n:Int)))=aG (r.take n):=(by rw[u,show(j:Int)+1=((j+1:Nat):Int) by lia,Fi _ _ _ (by lia) (by lia),m,YV]);rw[N]at i|-;have Y:H≠d:=λe=>(by rw[<- e,av]at i;cases i);have c:aD F (upd (upd F H (HO.lst (aG (r.take n)))) d (HO.lst [])):=(aD.new x).trans (aD.new i);have t:upd (upd F H (HO.lst (aG (r.take n)))) d (HO.lst []) H=some (.lst (aG (r.take n))):=(by rw[aF Y,av]);have D:upd (upd F H (HO.lst (aG (r.take n)))) d (HO.lst []) d=some (.lst []):=av;have N:p≠H:=aA v x;have Y:p≠d:=aA (aD.new x _ _ v) i;generalize upd (upd F H (HO.lst (aG (r.take n)))) d (HO.lst [])=a at c t D|-;show⟨E,rfl,_,X _,.bl b,dF (j:=2) rfl rfl,?_⟩;have i:=y.rest;rw[u];cases b with
   |false=>rw[Wn (by simp)]at i;show .inl ⟨rfl,xq H d a (j+1+n) G c t (by rw[i.1];show D) N Y (by lia) (by rw[W];show i.2.symm)⟩
   |true=>rw[Wt rfl]at i;obtain⟨d,s,x,Y,Z⟩:=i;have i:l[j+1+n]? =some (d:Int):=(by rw[<- x,<- m,Z2]);show .inr ⟨rfl,_,(f.trans c).seq z,.int (d:Int),dF (j:=j+1+n) rfl (J _ _ i),(d:Int),rfl,_,(f.trans c).seq z,λx s=> ?_⟩;have i:((j+1+n:Nat):Int)+1+(d:Int)=((j+1+n+1+d:Nat):Int):=(by lia);have J:jy (aG l) (some (((j+1+n:Nat):Int)+1)) (some (((j+1+n:Nat):Int)+1+(d:Int)))=aG row:=(by rw[i,show((j+1+n:Nat):Int)+1=((j+1+n+1:Nat):Int) by lia,Fi _ _ _ (by lia) (by lia),YV,Y,<- W];rfl);rw[J,i];have i:aD a (upd a x (HO.lst (aG row))):=aD.new s;show xq H x _ (j+1+n+1+d) _ (c.trans i) (i _ _ t) av N (aA (c _ _ v) s) (by lia) (by rw[Z,<- W];congr 1;lia)
 . rw[Wn (by lia)];have:=N6 xr (by lia);rw[<- this]at v;left;show xx _ _ v
section
variable{P:aS}{w:aU}{K:ay}{B:Str->az ak}{h a:aX}{CT:ai}
theorem Wi{k:Nat}(F:j7 P w K B a (XX P w CT) k f b g r)(c:∀q H Q E,r q H Q E->r q H Q E0):j7 P w K B a TY k f b g r:=by
 show⟨F.len,λA k s H args d q Q E f e b r h=> ?_⟩;have g:=F.run A k s H args d q Q E0 f e b r (c _ _ _ _ h);show aaF g λr b q=> ?_
 match r,q with
 | .ok (.ret u),q=>show q
 | .error e,q=>obtain⟨_,_,_,_,_,_,z⟩:=q;show z.elim
theorem cu.gl(X:K.In h)(G:h.Ns mainGlobals B)(a:cu K x z):∃t,B x=some (.int z t):=by obtain⟨t,e⟩:=a;show⟨t,aaH X G e⟩
theorem jd.gl(X:K.In h)(G:h.Ns mainGlobals B)(a:jd K x z):∃t,B x=some (.str z t):=by obtain⟨t,e⟩:=a;show⟨t,aaH X G e⟩
theorem TupAt.sq(t:TupAt K b l) H:dO K H b l:=by obtain⟨H,b,n,a,l,s,v⟩:=t;show .inr ⟨_,b.toArray,n,l,rfl,rfl,by rw[WU,Wx];lia,v⟩
theorem sH(P:aS)(w:aU):∀(L:ah (Int×Int×PySem.Tok×ai)),Pairs (bY P w) (L.map Bv) (L.map λz=>(Sum.inl z.1,Value.ref z.2.2.2))
 |[]=> .nil
 |z::L=> .cons (qS z.1 z.2.2.1) rfl (sH P w L)
theorem sI:∀(L:ah (Int×Int×PySem.Tok×ai))(z:Int×Int×PySem.Tok×ai),(L.map (·.1)).Nodup->z∈L->valueAt (L.map λz=>((Sum.inl z.1:Key),Value.ref z.2.2.2)) (Sum.inl z.1)=some (.ref z.2.2.2)
 |[],z,_,h=>by cases h
 |y::L,z,a,h=>by
  rw[WM,XF]at a;unfold valueAt;rw[WM,XO];rcases WB.mp h with rfl|h
  simp;have b:¬((Sum.inl y.1:Key)=Sum.inl z.1):=λe=>a.1 (by rw[YC e];show Wy.mpr ⟨z,h,rfl⟩);have:=sI L z a.2 h;unfold valueAt at this;simp only[b,decide_false];show this
theorem N8{a:ai}{b:Nat}{L:ah (Int×Int×PySem.Tok×ai)}(y:K.lookup a=some ⟨.type "dict",none,.dict (L.map Bv).toArray b,#[]⟩)(d:∀z∈L,z.2.1=hashInt z.1)(c:(L.map (·.1)).Nodup){z:Int×Int×PySem.Tok×ai}(f:z∈L):Qi K a (.inl z.1) (.ref z.2.2.2):=by intro P w h X;show⟨L.map λz=>(Sum.inl z.1,Value.ref z.2.2.2),.ref z.2.2.2,⟨_,_,_,X _ _ y,⟨rfl,rfl,rfl⟩,rfl,λe b=> ?_,sH P w L,?_⟩,sI L z c f,rfl⟩;rw[List.mem_toArray]at b;obtain⟨y,L,rfl⟩:=Wy.mp b;show⟨.inl y.1,qS y.1 y.2.2.1,d y L⟩;rw[WN];have:((λx:Key×ak=>x.1)∘λz:Int×Int×PySem.Tok×ai=>((Sum.inl z.1:Key),Value.ref z.2.2.2))=Sum.inl∘λz=>z.1:=rfl;rw[this,<- WN];show List.Pairwise.map Sum.inl (λa b h e=>h (YC e)) c
theorem MG(q:S9 K b):IJ K b:=by
 obtain⟨L,a,f,c,e⟩:=q;have b:L.map (·.1)=mS.map (·.1):=by have:=XE (List.map (·.1)) c;rw[WN,WN]at this;show this
 intro z d;obtain⟨i,q⟩:=XZ.mp d;obtain⟨y,d,h⟩:=bB e q;have e:y.1=z.1:=by have:=XE (λl:ah Int=>l[i]?) b;simp only[Ws,q,d,Yi]at this;show W5 this
 show⟨y.2.2.2,e▸N8 f (λq g=> ?_) (by rw[b];decide+kernel) (Wq d),h.sq⟩;have b:(q.1,q.2.1)∈L.map (λz=>(z.1,z.2.1)):=Wy.mpr ⟨q,g,rfl⟩;rw[c]at b;obtain⟨p,_,a⟩:=Wy.mp b;rw[<-(XU a).1,(XU a).2]
theorem MR.facts(x:MR K C):ng K C "kind" "place" :=by
 obtain⟨N,c,u,v,bs,w,sub,C,a,b,o,p,q,r,s,e,⟨z,A,f,y,B,d,F⟩,g,h,i,j,k,l,m,n,t⟩:=x;have f:W.nsOkIn K N=true:=by unfold W.nsOkIn;rw[d];show F
 obtain⟨d,kV,A,D,x,y,z,B,F⟩:=n.fn;show⟨t,⟨N,c,d,Hq,"TextFault.__init__","kind","place",_,_,_,_,_,_,_,_,u,v,bs,w,sub,C,a,b,o,p,q,r,s,e,f,g,h,i,j,k,l,m,F,⟨rfl,rfl,rfl,by decide+kernel,rfl,by decide+kernel,by decide+kernel⟩,by decide+kernel,F.binds (λ_ _ _ _ _ _ x n=>match x,n with|[_,_,_],_=>rfl),rfl,by decide+kernel,by decide+kernel,by decide+kernel⟩,?_,?_⟩;rfl;rfl
end
theorem Qy{K:ay}(X:K.In h)(G:h.Ns mainGlobals B)(v:B "answers" =some (.ref c))(t:Top K):
 ∃b,(∀s a,a.length=(["calls"]:ah Str).length->BindsTo s b ⟨a,[]⟩ ((["calls"]:ah Str).zip a))/\∀base,K.In base->base.Ns mainGlobals B->j7 P w K B base TY 17 c b ["calls"] (ou K):=by
 obtain⟨CT,u,fx⟩:=t.xf;obtain⟨H,b8,eu,cD,cT,fZ⟩:=t.b8;obtain⟨c,bE,eE,eT,fE,iu,iZ,i6,f5,i7,e7,dQ,ez⟩:=t.bE;obtain⟨d,bL,eZ,eF,bR,cH,dj,d_,fF⟩:=t.bL;obtain⟨e,dc,eU,eV,fj,e8⟩:=t.dc;obtain⟨f,cK,fX,eG,fY,dW,dS,fM,gF⟩:=t.cK;obtain⟨g,aH,bq,bV,aZ,cJ,cU,cP,e9,iw,fG,f6,gG⟩:=t.aH;obtain⟨cO,H7,Ak,Al,H8,H9,gk,nh,nZ,q7,qf,cB⟩:=t.bu;obtain⟨je,k_,g5,jz,gA,iV,fC,fD,iW,iX,lK,gP,g7,jA,jV,jB,gB,gm,iY,g8,gn,g9,jf,jW,n7,g_,gC,jC,lM,jg,jh,h_,kB,ic,gD,ie,kC,lN,n8,gE,lO,ig,kD,kE⟩:=t.ci;obtain⟨n5,ni,g6,qg,nj,nk,n6,uX,nq,B3,Am,nu,lg,qh⟩:=t.cs;obtain⟨i,lP,fJ⟩:=t.fJ;obtain⟨j,tH,kj⟩:=t.kj;obtain⟨k,kF,eY⟩:=t.eY;obtain⟨l,tK,r⟩:=t.Bw;obtain⟨cc,F,m,n,o,p,q⟩:∃cc:aC->ai,cc "Token" =H/\cc "Reader" =c/\cc "Column" =d/\cc "Mention" =e/\cc "Link" =f/\cc "Session" =g:=⟨λx=>if x= "Token" then H else if x= "Reader" then c else if x= "Column" then d else if x= "Mention" then e else if x= "Link" then f else if x= "Session" then g else 0,by simp⟩;obtain⟨I,c,d,e,f⟩:∃I:aC->ai,I "RESERVED" =i/\I "DEEDS" =j/\I "QUESTIONS" =k/\I "CALLS" =l:=⟨λx=>if x= "RESERVED" then i else if x= "DEEDS" then j else if x= "QUESTIONS" then k else if x= "CALLS" then l else 0,by simp⟩;subst F m n o p q c d e f;have T:TT K B CT cc I:={fx:=fx.facts,tf:=aaH X G u,cO:=Yy X G cO,H7:=Yy X G H7,Ak:=Yy X G Ak,Al:=Yy X G Al,H8:=Yy X G H8,H9:=Yy X G H9,gk:=Yy X G gk,nh:=Yy X G nh,nZ:=Yy X G nZ,q7:=Yy X G q7,qf:=Yy X G qf,cB:=Yy X G cB,je:=je.gl X G,k_:=k_.gl X G,g5:=g5.gl X G,jz:=jz.gl X G,gA:=gA.gl X G,iV:=iV.gl X G,fC:=fC.gl X G,fD:=fD.gl X G,iW:=iW.gl X G,iX:=iX.gl X G,lK:=lK.gl X G,gP:=gP.gl X G,g7:=g7.gl X G,jA:=jA.gl X G,jV:=jV.gl X G,jB:=jB.gl X G,gB:=gB.gl X G,gm:=gm.gl X G,iY:=iY.gl X G,g8:=g8.gl X G,gn:=gn.gl X G,g9:=g9.gl X G,jf:=jf.gl X G,jW:=jW.gl X G,n7:=n7.gl X G,g_:=g_.gl X G,gC:=gC.gl X G,jC:=jC.gl X G,lM:=lM.gl X G,jg:=jg.gl X G,jh:=jh.gl X G,h_:=h_.gl X G,kB:=kB.gl X G,ic:=ic.gl X G,gD:=gD.gl X G,ie:=ie.gl X G,kC:=kC.gl X G,lN:=lN.gl X G,n8:=n8.gl X G,gE:=gE.gl X G,lO:=lO.gl X G,ig:=ig.gl X G,kD:=kD.gl X G,kE:=kE.gl X G,n5:=n5.gl X G,ni:=ni.gl X G,g6:=g6.gl X G,qg:=qg.gl X G,nj:=nj.gl X G,nk:=nk.gl X G,n6:=n6.gl X G,uX:=uX.gl X G,nq:=nq.gl X G,B3:=B3.gl X G,Am:=Am.gl X G,nu:=nu.gl X G,lg:=lg.gl X G,qh:=qh.gl X G,lP:=aaH X G lP,tH:=aaH X G tH,kF:=aaH X G kF,tK:=aaH X G tK,fJ:=λH=>fJ.sq H,kj:=λH=>kj.sq H,eY:=λH=>eY.sq H,b8:=b8.cls,eu:=eu,cD:=cD,cT:=cT,bE:=bE.cls,eE:=eE,eT:=eT,bL:=bL.cls,eZ:=eZ,eF:=eF,bR:=bR,cH:=cH,dj:=dj,d_:=d_,dc:=dc.cls,eU:=eU,eV:=eV,fj:=fj,cK:=cK.cls,fX:=fX,eG:=eG,fY:=fY,dW:=dW,dS:=dS,fM:=fM,aH:=aH.cls,bq:=bq,bV:=bV,aZ:=aZ,cJ:=cJ,cU:=cU,cP:=cP};obtain⟨d,i,c⟩:=t.qR;obtain⟨b,kV,g,j,d,e,f,rfl,F⟩:=c.fn;cases v.symm.trans (aaH X G i);show⟨W.fnOf "answers" "answers" (j8 kW) (fy kW) (bD kW) .none kV g j d e f,λs a c=>match a,c with|[_],_=> .of_eq rfl,λbase _ _=> ?_⟩;show Wi (CT:=CT) (Hl F {T:=T,h:=⟨_,X,G⟩,fs:=t.fs,fZ:=fZ,fE:=fE,iu:=iu,iZ:=iZ,i6:=i6,f5:=f5,i7:=i7,e7:=e7,dQ:=dQ,ez:=ez,fF:=fF,e8:=e8,gF:=gF,e9:=e9,iw:=iw,fG:=fG,f6:=f6,gG:=gG,H_:=b8,DX:=bE,DY:=bL,An:=dc,La:=cK,Ao:=aH} (MG r)) λc H Q E h=>h
end DL
end
section
section
namespace L2
open PySem PySem.Spec PyProof.Rows
open PySem.W (WData Codec OpenSpec Well WellAll ReadsW ReadsAllW)
mutual
inductive Dw(K:ay)(H:Hp):V->WData->Prop
 |non:Dw K H .non .none
 |bl (b:Bool):Dw K H (.bl b) (.bool b)
 |int (i:Int):Dw K H (.int i) (.int i)
 |str (x:Str):Dw K H (.str x) (.str x)
 |Fq (b:Array UInt8):Dw K H (.Fq b) (.bytes b.toList)
 |lst {a:ai} {d:ah V} {c:ah WData}:bG K H a d->lE K H d c->Dw K H (.ref a) (.list c)
 |tup {a:ai} {d:ah V} {c:ah WData}:dO K H a d->lE K H d c->Dw K H (.ref a) (.tuple c)
inductive lE(K:ay)(H:Hp):ah V->ah WData->Prop
 |nil:lE K H [] []
 |cons {v:V} {b:ah V} {d:WData} {a:ah WData}:Dw K H v d->lE K H b a->lE K H (v::b) (d::a)
end
theorem IK{K:ay}:∀a:ah Int,lE K H (a.map V.int) (a.map WData.int)
 |[]=> .nil
 |n::r=> .cons (.int n) (IK r)
theorem IL{K:ay}:∀(h:ah Int)(xs:ah V),lE K H xs (h.map WData.int)->xs=h.map V.int
 |[],xs,h=>by cases h;rfl
 |n::r,xs,h=>by
  cases h with
  |cons h a=>cases h;rw[IL r _ a]<;>rfl
section
variable{P:aS}{w:aU}{K:ay}{H:Hp}{h:aX}{R:W.WRecords}{cl:Str->az ai}
theorem Qz(j:lG P w H h)(f:K.In h)(q:bG K H c d):∃a o n,bW d a/\h.get? c=some o/\o.cls= .type "list"/\o.data= .seq a.toArray n:=by
 rcases q with q|⟨o,a,n,e,g,_,i,_,b⟩
 obtain⟨_,a,n,b,e⟩:=(show dw P w H h c (.lst d)from q.ok j);show⟨a,_,n,b,e,rfl,rfl⟩;show⟨a.toList,o,n,b,f _ _ e,g,by simp[i]⟩
theorem QB(j:lG P w H h)(i:K.In h)(q:dO K H f g):∃a o n,bW g a/\h.get? f=some o/\o.cls= .type "tuple"/\o.data= .seq a.toArray n:=by
 rcases q with q|⟨o,a,n,e,b,c,_,d⟩
 obtain⟨_,a,d,o,e,b,n,c⟩:=(show dw P w H h f (.tup g)from q.ok j);show⟨a,o,n,d,e,b,c⟩;show⟨a.toList,o,n,d,i _ _ e,b,by simp[c]⟩
mutual
theorem Dw.reads(c:lG P w H h)(a:K.In h):∀t v u,Dw K H v t->RelV v u->∃d,ReadsW R cl h u t d
 | .none,_,_,x,r=>by cases x;cases r;show⟨_,ReadsW.none⟩
 | .bool b,_,_,x,r=>by cases x;cases r;show⟨_,ReadsW.bool b⟩
 | .int i,_,_,x,r=>by cases x;obtain⟨t,rfl⟩:=r;show⟨_,ReadsW.int i t⟩
 | .str s,_,_,x,r=>by cases x;obtain⟨t,rfl⟩:=r;show⟨_,ReadsW.str s t⟩
 | .bytes b,_,_,x,r=>by cases x;obtain⟨t,rfl⟩:=r;show⟨_,ReadsW.bytes _ t⟩
 | .list ds,_,_,x,r=>by
   cases x with
   |lst k t=>cases r;obtain⟨l,o,n,m,g,e,f⟩:=Qz c a k;obtain⟨d,j⟩:=Dw.readsAll c a ds _ l t m;show⟨_,ReadsW.list g e f j⟩
 | .tuple ds,_,_,x,r=>by
   cases x with
   |tup k t=>cases r;obtain⟨l,o,n,m,g,e,f⟩:=QB c a k;obtain⟨d,j⟩:=Dw.readsAll c a ds _ l t m;show⟨_,ReadsW.tuple g e f j⟩
 | .float _,_,_,x,_=>by cases x
 | .dict _,_,_,x,_=>by cases x
 | .bytearray _,_,_,x,_=>by cases x
 | .set _,_,_,x,_=>by cases x
 | .frozenset _,_,_,x,_=>by cases x
 | .obj _ _,_,_,x,_=>by cases x
theorem Dw.readsAll(e:lG P w H h)(b:K.In h):∀a x r,lE K H x a->bW x r->∃c,ReadsAllW R cl h r a c
 |[],_,_,x,r=>by cases x;cases r;show⟨_,ReadsAllW.nil⟩
 |d::a,_,_,x,r=>by
  cases x with
  |cons x f=>
   cases r with
   |cons g i=>obtain⟨c,r⟩:=Dw.reads e b d _ _ x g;obtain⟨bs,x⟩:=Dw.readsAll e b a _ _ f i;show⟨_,ReadsAllW.cons r x⟩
end
end
mutual
def J3:WData->Bool
 | .none=>true
 | .bool _=>true
 | .int _=>true
 | .str _=>true
 | .bytes _=>true
 | .list xs=>z8 xs
 | .tuple xs=>z8 xs
 |_=>false
def z8:ah WData->Bool
 |[]=>true
 |x::r=>J3 x&&z8 r
end
theorem Fj{r:Type}{f:r->WData}(h:∀a,J3 (f a)=true):∀l:ah r,z8 (l.map f)=true
 |[]=>rfl
 |x::r=>by change(J3 (f x)&&z8 (r.map f))=true;rw[h x,Fj h r]<;>rfl
theorem nS:∀(c:Codec)(a:c.denote),J3 (c.enc a)=true
 | .unit,_=>rfl
 | .bool,_=>rfl
 | .int _ _,_=>rfl
 | .nat _ _,_=>rfl
 | .u8,_=>rfl
 | .bytes _ _,_=>rfl
 | .text _ _ _ _,_=>rfl
 | .list _ _ c,a=>Fj (λx=>nS c x) a
 | .pair c d,a=>by change(J3 (c.enc a.1)&&(J3 (d.enc a.2)&&true))=true;rw[nS c a.1,nS d a.2]<;>rfl
 | .triple c d e,a=>by change(J3 (c.enc a.1)&&(J3 (d.enc a.2.1)&&(J3 (e.enc a.2.2)&&true)))=true;rw[nS c a.1,nS d a.2.1,nS e a.2.2]<;>rfl
 | .option c,none=>rfl
 | .option c,some x=>nS c x
theorem A5:∀b a,z8 (Codec.encAll b a)=true
 |[],_=>rfl
 |c::b,a=>by change(J3 (c.enc a.1)&&z8 (Codec.encAll b a.2))=true;rw[nS c a.1,A5 b a.2]<;>rfl
theorem pQ:∀{h}{d},d∈h->d.weight<=WData.weightAll h
 |[],d,h=>absurd h (by simp)
 |x::r,d,h=>by
  change d.weight<=x.weight+1+WData.weightAll r;rcases WB.mp h with e|m
  rw[e]
  lia
  have z:=pQ m
  lia
noncomputable def Fl:ak->V
 | .none=> .non
 | .bool b=> .bl b
 | .int i _=> .int i
 | .str x _=> .str x
 | .bytes b _=> .Fq b
 | .ref a=> .ref a
 |_=> .non
def JX(A:ah ai):ak->Prop
 | .none=>True
 | .bool _=>True
 | .int _ _=>True
 | .str _ _=>True
 | .bytes _ _=>True
 | .ref a=>a∈A
 |_=>False
theorem JX.mono(h:∀a∈A,a∈B):∀{u},JX A u->JX B u:=λ{u} x=>by
 cases u with
 |ref a=>show h a x
 |none=>trivial
 |bool b=>trivial
 |int i t=>trivial
 |str s t=>trivial
 |bytes b t=>trivial
 |_=>show False.elim x
theorem MH(x:JX A u):RelV (Fl u) u:=by
 cases u with
 |ref a=>rfl
 |none=>rfl
 |bool b=>rfl
 |int i t=>show⟨t,rfl⟩
 |str s t=>show⟨t,rfl⟩
 |bytes b t=>show⟨t,rfl⟩
 |_=>show False.elim x
theorem lF:∀{a},(∀u∈a,JX A u)->bW (a.map Fl) a
 |[],_=> .nil
 |u::r,h=> .cons (MH (h u (WD ..))) (lF λx a=>h x (Wz _ a))
def mF(h:aX)(A:ah ai)(b:ai):Prop:=∃a:ah ak,a.length<=sizeLine/\(∀u∈a,JX A u)/\
 (h.get? b=some {cls:= .type "list",data:= .seq a.toArray}∨h.get? b=some {cls:= .type "tuple",data:= .seq a.toArray})
theorem mF.mono(k:∀a∈A,a∈B)(x:mF h A a):mF h B a:=by obtain⟨b,a,h,A⟩:=x;show⟨b,a,λu B=>(h u B).mono k,A⟩
theorem kJ:∀{b}{a},WellAll P h b a->b.length=a.length
 |_,_,.nil=>rfl
 |_,_,.cons _ b=>by change _+1=_+1;rw[kJ b]
theorem A6(x:Well P h v (.list c)):∃a b,v= .ref a/\h.get? a=some {cls:= .type "list",data:= .seq b.toArray}/\WellAll P h b c:=by
 cases x with
 |list b a=>show⟨_,_,rfl,b,a⟩
theorem wh(x:Well P h v (.tuple c)):∃a b,v= .ref a/\h.get? a=some {cls:= .type "tuple",data:= .seq b.toArray}/\WellAll P h b c:=by
 cases x with
 |tuple b a=>show⟨_,_,rfl,b,a⟩
theorem A7(x:WellAll P h c (d::b)):∃v a,c=v::a/\Well P h v d/\WellAll P h a b:=by
 cases x with
 |cons a b=>show⟨_,_,rfl,a,b⟩
theorem IQ(h:n<=1048576):n<=sizeLine:=Xi h (by decide)
section
variable{P:Params}{h:aX}
mutual
theorem MJ:∀d v,Well P h v d->J3 d=true->d.weight<=1048576->∃A,JX A v/\∀a∈A,mF h A a
 | .none,_,x,_,_=>by cases x;show⟨[],trivial,λa m=>absurd m (by simp)⟩
 | .bool b,_,x,_,_=>by cases x;show⟨[],trivial,λa m=>absurd m (by simp)⟩
 | .int i,_,x,_,_=>by cases x;show⟨[],trivial,λa m=>absurd m (by simp)⟩
 | .str s,_,x,_,_=>by cases x;show⟨[],trivial,λa m=>absurd m (by simp)⟩
 | .bytes b,_,x,_,_=>by cases x;show⟨[],trivial,λa m=>absurd m (by simp)⟩
 | .list ds,_,x,p,z=>by
   obtain⟨a,r,rfl,o,e⟩:=A6 x;have f:=z;obtain⟨A,j,l⟩:=qH ds _ e p λd n=>Xi (pQ n) f;have k:∀b∈A,b∈a::A:=λb c=>Wz _ c;show⟨a::A,WD ..,λb c=> ?_⟩;rcases WB.mp c with g|m
   rw[g];show⟨r,IQ (by rw[kJ e];show Xi (W.length_le_weightAllW ds) f),λu q=>(j u q).mono k,.inl o⟩;show(l b m).mono k
 | .tuple ds,_,x,p,z=>by
   obtain⟨a,r,rfl,o,e⟩:=wh x;have f:=z;obtain⟨A,j,l⟩:=qH ds _ e p λd n=>Xi (pQ n) f;have k:∀b∈A,b∈a::A:=λb c=>Wz _ c;show⟨a::A,WD ..,λb c=> ?_⟩;rcases WB.mp c with g|m
   rw[g];show⟨r,IQ (by rw[kJ e];show Xi (W.length_le_weightAllW ds) f),λu q=>(j u q).mono k,.inr o⟩;show(l b m).mono k
 | .float _,_,_,p,_=>Bool.noConfusion (show false=true from p)
 | .dict _,_,_,p,_=>Bool.noConfusion (show false=true from p)
 | .bytearray _,_,_,p,_=>Bool.noConfusion (show false=true from p)
 | .set _,_,_,p,_=>Bool.noConfusion (show false=true from p)
 | .frozenset _,_,_,p,_=>Bool.noConfusion (show false=true from p)
 | .obj _ _,_,_,p,_=>Bool.noConfusion (show false=true from p)
theorem qH:∀b a,WellAll P h a b->z8 b=true->(∀d∈b,d.weight<=1048576)->∃A,(∀u∈a,JX A u)/\∀e∈A,mF h A e
 |[],_,x,_,_=>by cases x;show⟨[],λu m=>absurd m (by simp),λe m=>absurd m (by simp)⟩
 |d::b,_,x,p,z=>by
  obtain⟨v,a,rfl,e,c⟩:=A7 x;have q:=abA.mp p;obtain⟨A,f,g⟩:=MJ d v e q.1 (z d (WD ..));obtain⟨B,i,j⟩:=qH b a c q.2 λe x=>z e (Wz _ x);have x:∀b∈A,b∈A++B:=λb a=>W0.mpr (.inl a);have c:∀b∈B,b∈A++B:=λb a=>W0.mpr (.inr a);show⟨A++B,λu q=> ?_,λb a=> ?_⟩;rcases WB.mp q with e|m
  rw[e];show f.mono x;show(i u m).mono c;rcases W0.mp a with m|m
  show(g b m).mono x;show(j b m).mono c
end
end
noncomputable def N9 (o:aV):az HO:=match o.data with
 | .seq a _=>if(o.cls==Value.type "list")=true then some (.dI o (.lst (a.toList.map Fl)))else some (.dI o (.tup (a.toList.map Fl)))
 |_=>none
noncomputable def mj (K:ay) (h:aX) (A:ah ai):Hp:=λb=>if b∈A then(if(K.lookup b).isNone=true then(h.get? b).bind N9 else none)else none
def A8(H:Hp):Prop:=∀b,H b=none∨∃o u,H b=some (.dI o u)
theorem Fo(a:ah ak):N9 {cls:= .type "list",data:= .seq a.toArray}=some (.dI {cls:= .type "list",data:= .seq a.toArray} (.lst (a.map Fl))):=by change(if(Value.type "list" ==Value.type "list")=true then some (HO.dI {cls:= .type "list",data:= .seq a.toArray} (.lst (a.toArray.toList.map Fl)))else some (HO.dI {cls:= .type "list",data:= .seq a.toArray} (.tup (a.toArray.toList.map Fl))))=_;rw[Wt (beq_self_eq_true _)]
theorem Fp(a:ah ak):N9 {cls:= .type "tuple",data:= .seq a.toArray}=some (.dI {cls:= .type "tuple",data:= .seq a.toArray} (.tup (a.map Fl))):=by change(if(Value.type "tuple" ==Value.type "list")=true then some (HO.dI {cls:= .type "tuple",data:= .seq a.toArray} (.lst (a.toArray.toList.map Fl)))else some (HO.dI {cls:= .type "tuple",data:= .seq a.toArray} (.tup (a.toArray.toList.map Fl))))=_;rw[Wn (by decide)]
section
variable{P:aS}{w:aU}{K:ay}{h:aX}{A:ah ai}
theorem tS(a:b∈A)(c:K.lookup b=none)(e:h.get? b=some o):mj K h A b=N9 o:=by unfold mj;rw[Wt a,c,Wt (show(none:az aV).isNone=true from rfl),e]<;>rfl
theorem N_(q:mj K h A b=some u):b∈A/\K.lookup b=none:=by
 unfold mj at q;by_cases a:b∈A;rw[Wt a]at q;cases c:K.lookup b with
 |none=>show⟨a,rfl⟩
 |some o=>rw[c,Wn (by simp)]at q;cases q
 rw[Wn a]at q;cases q
theorem tT(e:∀c∈A,mF h A c){b:ai}{u:HO}(q:mj K h A b=some u):K.lookup b=none/\∃a:ah ak,a.length<=sizeLine/\(∀u∈a,JX A u)/\
 ((h.get? b=some {cls:= .type "list",data:= .seq a.toArray}/\u= .dI {cls:= .type "list",data:= .seq a.toArray} (.lst (a.map Fl)))∨
  (h.get? b=some {cls:= .type "tuple",data:= .seq a.toArray}/\u= .dI {cls:= .type "tuple",data:= .seq a.toArray} (.tup (a.map Fl)))):=by
 obtain⟨u,c⟩:=N_ q;obtain⟨a,d,f,g⟩:=e b u;show⟨c,a,d,f,?_⟩;rcases g with e|e
 rw[tS u c e,Fo]at q;show .inl ⟨e,(W5 q).symm⟩;rw[tS u c e,Fp]at q;show .inr ⟨e,(W5 q).symm⟩
theorem JY(b:∀a∈A,mF h A a):A8 (mj K h A):=λe=>by
 cases q:mj K h A e with
 |none=>show .inl rfl
 |some u=>obtain⟨_,a,_,_,⟨_,e⟩|⟨_,e⟩⟩:=tT b q;show .inr ⟨_,_,by rw[e]⟩;show .inr ⟨_,_,by rw[e]⟩
theorem Oa(d:∀a∈A,mF h A a):lG P w (mj K h A) h:=λb u q=>by obtain⟨_,c,a,b,⟨e,rfl⟩|⟨e,rfl⟩⟩:=tT d q;show⟨e,by rw[Wl];show a,c,_,lF b,e⟩;show⟨e,by rw[Wl];show a,c,lF b,_,e,rfl,_,rfl⟩
theorem tU{c a :ak}{d b:ah ak}(e:(some {cls:=c,data:= .seq d.toArray}:az aV)=some {cls:=a,data:= .seq b.toArray}):c=a/\d=b:=by
 have a:=W5 e;have b:=XE Obj.cls a;have c:=XE Obj.data a;injection c with a
 show⟨b,?_⟩;have b:=XE Array.toList a;simpa using b
theorem UI(f:K.In h)(g:∀a∈A,mF h A a){a:ai}{q:ah ak}(b:a∈A)(e:h.get? a=some {cls:= .type "list",data:= .seq q.toArray}):(∀u∈q,JX A u)/\bG K (mj K h A) a (q.map Fl):=by
 obtain⟨d,i,c,j⟩:=g a b
 have g:d=q:=by
  rcases j with q|q
  rw[e]at q;show(tU q).2.symm;rw[e]at q;show absurd (Value.type.inj (tU q).1) (by decide)
 subst g;show⟨c,?_⟩;cases q:K.lookup a with
 |none=>show .inl (.inr ⟨_,by rw[tS b q e,Fo]⟩)
 |some o=>have b:=f a o q;rw[e]at b;obtain rfl:=W5 b;show .inr ⟨_,d.toArray,_,q,rfl,rfl,rfl,by rw[WU];show i,by simpa using lF c⟩
theorem UJ(f:K.In h)(g:∀a∈A,mF h A a){a:ai}{q:ah ak}(b:a∈A)(e:h.get? a=some {cls:= .type "tuple",data:= .seq q.toArray}):(∀u∈q,JX A u)/\dO K (mj K h A) a (q.map Fl):=by
 obtain⟨d,i,c,j⟩:=g a b
 have g:d=q:=by
  rcases j with q|q
  rw[e]at q;show absurd (Value.type.inj (tU q).1) (by decide);rw[e]at q;show(tU q).2.symm
 subst g;show⟨c,?_⟩;cases q:K.lookup a with
 |none=>show .inl (.inr ⟨_,by rw[tS b q e,Fp]⟩)
 |some o=>have b:=f a o q;rw[e]at b;obtain rfl:=W5 b;show .inr ⟨_,d.toArray,_,q,rfl,rfl,by rw[WU];show i,by simpa using lF c⟩
mutual
theorem QC{e:Params}(a:K.In h)(c:∀d∈A,mF h A d):∀(p:WData)(v:ak),Well e h v p->J3 p=true->JX A v->Dw K (mj K h A) (Fl v) p
 | .none,_,x,_,_=>by cases x;show .non
 | .bool b,_,x,_,_=>by cases x;show .bl b
 | .int i,_,x,_,_=>by cases x;show .int i
 | .str s,_,x,_,_=>by cases x;show .str s
 | .bytes b,_,x,_,_=>by cases x;have z:=Dw.Fq (K:=K) (H:=mj K h A) b.toArray;show z
 | .list ds,_,x,p,k=>by obtain⟨d,v,rfl,g,f⟩:=A6 x;obtain⟨e,j⟩:=UI a c k g;show .lst j (CF a c ds _ f p e)
 | .tuple ds,_,x,p,k=>by obtain⟨d,v,rfl,g,f⟩:=wh x;obtain⟨e,j⟩:=UJ a c k g;show .tup j (CF a c ds _ f p e)
 | .float _,_,_,p,_=>Bool.noConfusion (show false=true from p)
 | .dict _,_,_,p,_=>Bool.noConfusion (show false=true from p)
 | .bytearray _,_,_,p,_=>Bool.noConfusion (show false=true from p)
 | .set _,_,_,p,_=>Bool.noConfusion (show false=true from p)
 | .frozenset _,_,_,p,_=>Bool.noConfusion (show false=true from p)
 | .obj _ _,_,_,p,_=>Bool.noConfusion (show false=true from p)
theorem CF(c:K.In h)(e:∀f∈A,mF h A f):∀a b,WellAll g h b a->z8 a=true->(∀u∈b,JX A u)->lE K (mj K h A) (b.map Fl) a
 |[],_,x,_,_=>by cases x;show .nil
 |d::a,_,x,p,f=>by obtain⟨v,b,rfl,g,i⟩:=A7 x;have q:=abA.mp p;show .cons (QC c e d v g q.1 (f _ (WD ..))) (CF c e a b i q.2 λu m=>f u (Wz _ m))
end
end
theorem JZ{K:ay}{W:Nat}
 (p:K.In a.heap) (Q:a.heap.Ns mainGlobals l) (B:a.heap.Ns builtinsNs X) (xJ:∀x:Str,x≠"__name__"->X x=bootBuiltins x) (xP:a.heap.NoLimit) (xM:a.gens= #[])
 (D:WellAll w.params a.heap d g) (U:z8 g=true) (xT:∀f∈g,f.weight<=1048576) (xQ:fq W callerA)
 (xj:∀t:aX,K.In t->t.Ns mainGlobals l->j7 P w K l t xh W xx xA n xZ) (xK:∀(xY:aq)(F:ah ak),F.length=n.length->BindsTo xY xA ⟨F,[]⟩ (n.zip F)) (xO:g.length=n.length)
 (xS:∀(H:Hp)(xg:ah V),A8 H->lE K H xg g->xZ xg H (λG I =>Dw K I G d0) λ_ _ _=>False)
 (xF:∀H e c,xh [] H a (λ_ _ _=>False) e c->False):
 codeAny (model P w) callerA (.call (.ref xx) ⟨d,[]⟩) (λr c =>∃u s,r= .ok (.ret u)/\ReadsW R cl c.heap u d0 s/\OldK a.heap c.heap/\c.os=a.os/\AllBare c.gens) a:=by
 obtain⟨A,S,h⟩:=qH g d D U xT;have y:A8 (mj K a.heap A):=JY h;have C:lG P w (mj K a.heap A) a.heap:=Oa h;have O:=CF p h g d D U S;have xH:=lF S;have M:∀b u,mj K a.heap A b=some u->K.lookup b=none:=λb u q=>(tT h q).1
 have Y:∀{b:ai}{o:aV}{k:Array DictEntry}{j:Nat},a.heap.get? b=some o->o.data= .dict k j->mj K a.heap A b=none:=λ{b o k j} e f=>by
  cases q:mj K a.heap A b with
  |none=>rfl
  |some u=>obtain⟨_,ya,_,_,⟨i,_⟩|⟨i,_⟩⟩:=tT h q;rw[i]at e;cases e;have v :=f;cases v;rw[i]at e;cases e;have v :=f;cases v
 generalize mj K a.heap A=H at y C O M Y;have J:∀{b:ai}{o:aV},a.heap.get? b=some o->H b=none->(Bx a.heap H).get? b=some o:=λe xV=>J9 e xV;have m:∀{b:ai}{E:Str->az ak},a.heap.Ns b E->(Bx a.heap H).Ns b E:=λ{b E}⟨o,k,j,e,f,r⟩=>⟨o,k,j,J e (Y e f),f,r⟩
 have xW:∀b o,K.lookup b=some o->H b=none:=λb o e=>by
  cases q:H b with
  |none=>rfl
  |some u=>rw[M b u q]at e;cases e
 have N:K.In (Bx a.heap H):=λb o e=>J (p b o e) (xW b o e);have xG:Mod K l (Bx a.heap H):=⟨N,m Q,⟨X,m B,xJ⟩,let⟨xU,xC,xE⟩:=xP;⟨xU,m xC,xE⟩⟩;have xu:F3 P w K l (Bx a.heap H) callerA [] a H:=⟨rfl,xG,λb o e=>MV e,Z7 (I0 _ _),trivial,λb B=>absurd (show b∈([]:ah ai)from B) (by simp),C,.of_eq xM⟩;have xN:d.length=n.length:=by rw[kJ D];show xO
 show aaF ((xj _ N (m Q)).run callerA [] a H ⟨d,[]⟩ d (d.map Fl) _ _ xQ xu (xK a d xN) xH (xS H _ y O)) λr c x=> ?_;cases r with
 |error e=>show(xF H e c x).elim
 |ok xB=>
  cases xB with
  |next=>show False.elim x
  |brk=>show False.elim x
  |cont=>show False.elim x
  |ret u=>
   obtain⟨G,I,os,xr,un,T,xX,q⟩:=x
   have kept:∀b o,a.heap.get? b=some o->c.heap.get? b=some o:=λb o e=>by
    cases Z:H b with
    |none=>show un.keep b o e Z (by intro z;show absurd (show b∈([]:ah ai)from z) (by simp)) (by simp)
    |some x8=>
     rcases y b with z|⟨ob,x9,z⟩
     rw[Z]at z;cases z;have x6:=un.pX b ob _ z;obtain⟨L,_⟩:=C b _ z;obtain⟨i,_⟩:=T b _ x6;rw[e]at L;cases L;show i
   have xq :K.In c.heap:=λb o e=>kept b o (p b o e);obtain⟨s,xR⟩:=Dw.reads (R:=R) (cl:=cl) T xq d0 G u q xX;show⟨u,s,rfl,xR,OldK.of_keep kept,os,xr⟩
theorem wj(h:WData.layableAll a=true):∀d∈a,d.weight<=1048576:=λd b=>(W.layableW_iff.mp (X6.mp h d b)).2.2
theorem wk:∀a b,(Codec.encAll a b).length=a.length
 |[],_=>rfl
 |c::a,b=>by change(Codec.encAll a b.2).length+1=a.length+1;rw[wk a b.2]
theorem J0{r:OpenSpec}{k:Nat}{m:aS}{i:ah Str}{Y:(Str->az ak)->aX->Prop}{G:aU->aX->Prop}{e:DefRec}{K:Params->ay}{CX:aU->Kr}{a:ah Str}{sp:aU->Sp}
 (u:r.wellSaid=true) (h:e.params.defaults=[]) (o:r.args.length=a.length) (q:fq k callerA)
 (l:∀(w:aU)(h:aX),G w h->(K w.params).In h)
 (F:∀(w:aU)(b:Str->az ak)(c:ai)(h:aX),G w h->(K w.params).In h->h.Ns mainGlobals b->b e.name=some (.ref c)->
   ∃g:FuncData,(∀(s:aq)(h:ah ak),h.length=a.length->BindsTo s g ⟨h,[]⟩ (a.zip h))/\
    ∀h:aX,(K w.params).In h->h.Ns mainGlobals b->j7 r.prog w (K w.params) b h (CX w) k c g a (sp w))
 (t:∀(w:aU)(H:Hp)(d:ah V)(a:Codec.denoteAll r.args),A8 H->Codec.withinAll r.args a=true->Codec.app r.args r.asked a=true->lE (K w.params) H d (Codec.encAll r.args a)->
   sp w d H (λv h =>Dw (K w.params) h v (r.ret.enc (Codec.app r.args r.f a))) λ_ _ _=>False)
 (j:∀(w:aU)(H:Hp)(s:aq)(f:ak)(h :aq),CX w [] H s (λ_ _ _=>False) f h->False):
 W.WalkOS m i Y G r e [] (λk s=>PySem.call k s):=by
 intro w x y b J G Y c L M k z s kV E C B A p m args N e i n I v D;obtain⟨a,e,k⟩:=W.os_pre_some i;obtain⟨i,s⟩:=Codec.encAll_of_decAll r.args args a e;subst i;have e:=l w _ Y;obtain⟨g,l,i⟩:=F w b c _ Y e G.T.g p
 show W.enter_call (aaF (JZ (R:=[]) (cl:=classAt x.heap) (d0:=r.ret.enc (Codec.app r.args r.f a)) e G.T.g G.T.b G.T.builtins G.T.nolimit m v (A5 _ _) (wj n) q i l (by rw[wk];show o)
  (λH d e G=>t w H d a e s k G) λH f h =>j w H y f h) λl h i=> ?_)
 obtain⟨l,h,rfl,e,k,a,G⟩:=i;show⟨.inl ⟨l,_,h,rfl,λ_=>rfl,e,(OpenSpec.post_iff u s _ _).mpr rfl,λz=>Bool.noConfusion (show false=true from z)⟩,k,a,G⟩
theorem Ho{r:OpenSpec}{k:Nat}{t:aS}{q:ah Str}{f:(Str->az ak)->aX->Prop}{b:aU->aX->Prop}{d:DefRec}{K:Params->ay}{CX:Kr}{ps:ah Str}{sp:ay->Sp}
 (p:r.wellSaid=true) (l:d.params.defaults=[]) (m:r.args.length=ps.length) (n:fq k callerA)
 (j:∀(w:aU)(h:aX),b w h->(K w.params).In h)
 (F:∀(w:aU)(a:Str->az ak)(c:ai)(h:aX),b w h->(K w.params).In h->h.Ns mainGlobals a->a d.name=some (.ref c)->
   ∃e:FuncData,(∀(s:aq)(h:ah ak),h.length=ps.length->BindsTo s e ⟨h,[]⟩ (ps.zip h))/\
    ∀h:aX,(K w.params).In h->h.Ns mainGlobals a->j7 r.prog w (K w.params) a h CX k c e ps (sp (K w.params)))
 (o:∀(K:ay)(H:Hp)(h:ah V)(a:Codec.denoteAll r.args),A8 H->Codec.withinAll r.args a=true->Codec.app r.args r.asked a=true->lE K H h (Codec.encAll r.args a)->
   sp K h H (λv c =>Dw K c v (r.ret.enc (Codec.app r.args r.f a))) λ_ _ _=>False)
 (i:∀(H:Hp)(s:aq)(e:ak)(c :aq),CX [] H s (λ_ _ _=>False) e c->False):
 W.WalkOS t q f b r d [] (λg v=>PySem.call g v):=
 J0 (K:=K) (CX:=λ_=>CX) (sp:=λw=>sp (K w.params)) p l m n j F (λw H h a b d f g=>o (K w.params) H h a b d f g) λ_ H s e c =>i H s e c
end L2
end
end
section
open PySem PySem.W PyProof.Rows
theorem DL.MK K H q a(b:L2.A8 H)(d:Codec.withinAll PySem.Challenge.rw_objectsessions_s01_answers.args a=true)(c:Codec.app PySem.Challenge.rw_objectsessions_s01_answers.args PySem.Challenge.rw_objectsessions_s01_answers.asked a=true)(e:L2.lE K H q (Codec.encAll PySem.Challenge.rw_objectsessions_s01_answers.args a)):
 DL.ou K q H (λv b =>L2.Dw K b v (PySem.Challenge.rw_objectsessions_s01_answers.ret.enc (Codec.app PySem.Challenge.rw_objectsessions_s01_answers.args PySem.Challenge.rw_objectsessions_s01_answers.f a))) λ_ _ _=>False:=by
 cases e with
 |cons q e=>
  cases e;cases q with
  |lst H q=>have e:=L2.IL a.1 _ q;subst e;have q:((Codec.inLen 0 17000 a.1&&a.1.all (Codec.inInt (-1000000000000000000) 1000000000000000000))&&true)=true:=d;rw[WV,WV]at q;show⟨_,a.1,rfl,H,(Codec.inNat_iff.mp q.1.1).2,c,λb p e=> .lst (L2.bG.of e) (L2.IK _)⟩
end
theorem Wj:ZZ.WW:=by rintro q l X Y d _ ⟨K,b,T,c,e⟩;show L2.Ho (r:=PySem.Challenge.rw_objectsessions_s01_answers) (k:=17) (CX:=L2.TY) (ps:=["calls"]) (sp:=DL.ou) UK c rfl ⟨rfl,by decide,by decide⟩ b (λw l X h Y a G d=>DL.Qy a G (e▸d) (T w)) DL.MK (λ_ _ _ _ z=>z)
theorem PySem.Challenge.cw_objectsessions_s01_answers_holds : PySem.Challenge.rw_objectsessions_s01_answers.Holds := by
 exact ZZ.early Wj
