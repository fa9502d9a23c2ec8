import PyProof.Rows.All
import Wide.All
import OpenK.AllK
import Wide.FinOn
import PyProof.EqAt
import PyProof.EqKinds
import PyProof.TupleCall
import KE.BitLaws
import Open.SpecLaws
import KE.OsHead
import KE.OsGo
import KE.KSortKey
import KE.KLam
import KE.KSortTupG
import PyProof.Rows.CountFlat
import KE.KMinKey
import PyProof.EnumMake
import PyProof.Draws
import PyFlatLaws
import PySem.Challenge.RW_quiltshop_s01_answers
set_option Elab.async false
set_option linter.all false
set_option maxRecDepth 100000
set_option maxHeartbeats 0
namespace PySem.W.Fast
def tw7671151323377534111:=0
def tw18124581676290672360:=0
def tw14478204006726108242:=0
def tw12691943906506702946:=0
def tw2250443682989827970:=0
def tw8969216587464564772:=0
def tw1658382015597488694:=0
def tw986278823301348609:=0
def tw2789366408237562005:=0
def tw8828568755207098135:=0
def tw7928000948651835905:=0
def tw9620627580092330032:=0
def tw264932986702033461:=0
def tw987301045722139829:=0
def tw7704230158044033006:=0
def tw2849704279308238487:=0
def tw12592172766608505503:=0
def tw4891155283279915023:=0
def tw12103309309050226592:=0
def tw936880607376485977:=0
def tw18409733938997330561:=0
def tw14785633479632635281:=0
def tw3233987462203235646:=0
def tw5920806927976990809:=0
def tw17590876675597686902:=0
def tw628631919661052299:=0
def tw12669407529647801677:=0
def tw17410218998227585676:=0
def tw7046044490832178742:=0
def tw6266108732606883215:=0
def tw11662115353561507501:=0
def tw1660798551392318424:=0
def tw14391293386007564604:=0
def tw6105849179199505303:=0
def tw1840220198017710270:=0
def tw6979879451811627008:=0
def tw12200699767478067731:=0
def tw13367945306605744095:=0
def tw10326336056695345397:=0
def tw5537553045615171315:=0
def tw5094820788120690377:=0
def tw15181078141257973585:=0
def tw6522051377940421278:=0
def tw17418474659706920486:=0
def tw15652585536906490351:=0
def tw15114039742791322609:=0
def tw16930134210191867210:=0
def tw9467748568035323566:=0
def tw10016166984437732892:=0
def tw1717767836212652739:=0
def tw11401859456886640639:=0
def tw10988764466652934233:=0
def tw3198059409981156222:=0
def tw5487717013928043313:=0
def tw4096438862311573950:=0
def tw609457278022895560:=0
def tw561727478393794602:=0
def tw12369848792361866835:=0
def tw13855379610559885079:=0
def tw11368310244458860372:=0
def tw15289973176327117614:=0
def tw11267315532378154396:=0
def tw6329614223026926184:=0
def tw3520257249291928256:=0
def tw1986786360949550309:=0
def tw1719895430356276633:=0
def tw4884199854448574:=0
def tw3713540243193553862:=0
def tw17013487888433625170:=0
def tw15016216816812991519:=0
def tw10510056951384868246:=0
def tw12099505692703838030:=0
def tw14842496431369740429:=0
def tw13851971633180934007:=0
def tw4953865588907285216:=0
def tw9947508896943372755:=0
def tw3235425350174046738:=0
def tw17510684818845775701:=0
def tw10258873121960336067:=0
def tw615563214671542189:=0
def tw9615563845995560447:=0
def tw12572141291099187346:=0
def tw14938211915633500526:=0
def tw3239113980409921550:=0
def tw651700358538967526:=0
def tw17760279517084355780:=0
def tw890339118813698166:=0
def tw7405476570675247113:=0
def tw7322748291113730364:=0
def tw7181997581385953548:=0
def tw1864683662541468164:=0
def tw16217903435359918192:=0
def tw5217270863462422736:=0
def tw3647752791723578311:=0
def tw2708214617527550399:=0
def tw13366278800048369731:=0
def tw16005714805435085966:=0
def tw11738243743197964597:=0
def tw5459702643516471331:=0
def tw3300454383303005205:=0
def tw7151132215420815488:=0
def tw539538531456391632:=0
def tw3249397887889303278:=0
def tw11305685865012962721:=0
def tw6208910965292489261:=0
def tw987426779421491659:=0
def tw9530734954097333506:=0
def tw13421457143807847188:=0
def tw17214186515701724070:=0
def tw2869065659524454656:=0
def tw9388066449989048879:=0
def tw17360015989920007124:=0
def tw16670775579421159206:=0
def tw1708089923452030704:=0
def tw1956260828630720203:=0
def tw14398111036562950334:=0
def tw1835071406663858368:=0
def tw3831019782443316194:=0
def tw14801369171006070438:=0
def tw3985964047577975286:=0
def tw4971374062829452455:=0
def tw7086961617601330827:=0
def tw9584292182412213727:=0
def tw14760874974797668852:=0
def tw4490611911172417597:=0
def tw727553628536289456:=0
def tw3726453103677007866:=0
def tw18031968618487185184:=0
def tw4512776594637900181:=0
def tw14746253646979254834:=0
def tw11824586356888161845:=0
def tw9461873434466728008:=0
def tw12250869413391326473:=0
def tw17170472223608059050:=0
def tw14341141199694864594:=0
def tw2741014181512449073:=0
def tw13135312941875745310:=0
def tw11266997524610791606:=0
def tw10826640976665885199:=0
def tw8565224436197482051:=0
def tw16279288168775177219:=0
def tw9304451534382375720:=0
def tw6690350156832105676:=0
def tw15925456577456769635:=0
def tw8274446707539698164:=0
def tw8222940686941784037:=0
def tw4408816720484365081:=0
def tw16864618592142003386:=0
def tw15433366417846715934:=0
def tw14782755387869428366:=0
def tw247591363613054380:=0
def tw15166322114958858414:=0
def tw6162269159774324313:=0
def tw18073898193381586223:=0
def tw384561282630992784:=0
def tw2424988045566436242:=0
def tw16309811473084048462:=0
def tw16746677531222629524:=0
def tw15142666989864626641:=0
def tw2314633323536394700:=0
def tw17659185236578331656:=0
def tw6408400580700104982:=0
def tw7212858340449540239:=0
def tw13439652990877377571:=0
def tw15831126876759372255:=0
def tw5832146486336120021:=0
def tw14607143338591219252:=0
def tw5467331546851215429:=0
def tw2492000799826889573:=0
def tw7921390202802761869:=0
def tw1725486776273817318:=0
def tw6128145076113358165:=0
def tw16412085850373738351:=0
def tw10958628066121416707:=0
def tw14935156969734317764:=0
def tw4321966507151631593:=0
def tw2046362190076281809:=0
def tw15499940227032437249:=0
def tw12125097214300078407:=0
def tw10611411778653204182:=0
def tw2810200551564342888:=0
def tw16120054744476736488:=0
def tw13385558918117058561:=0
def tw4562827626845409882:=0
def tw2386784164831690217:=0
def tw855453113358079251:=0
def tw10879749546641988924:=0
def tw10842938092177581297:=0
def tw4483904966330829159:=0
def tw9536688357841153863:=0
def tw15771247859494662083:=0
def tw11766667032028208565:=0
def tw11317637306720784765:=0
def tw6331431999304432861:=0
def tw17613222154834848340:=0
def tw13547939009206843870:=0
def tw15752536640612570366:=0
def tw5832305185047221409:=0
def tw17823556299335049440:=0
def tw18418582437962087742:=0
def tw13215348057498601715:=0
def tw206757683497733573:=0
def tw2868442198168577507:=0
def tw15577281813014381367:=0
def tw87601786513091389:=0
def tw12770481643036789091:=0
def tw11513857634932158529:=0
def tw4547051000311932777:=0
def tw5323657890516693427:=0
def tw14404928986312190071:=0
def tw16766484511958638138:=0
def tw5665240888008139550:=0
def tw17155049476370652306:=0
def tw15227483606004533461:=0
def tw9003107776662980439:=0
def tw12461081396071149458:=0
def tw14441679199631801671:=0
def tw15779231459743154856:=0
def tw16902440903046159558:=0
def tw14564479935002850509:=0
def tw6188973233030003785:=0
def tw3328118118096588273:=0
def tw7485256538410118956:=0
def tw2692750590507578028:=0
def tw17518593693041627797:=0
def tw3721919958574915784:=0
def tw2931988195819169919:=0
def tw16682895059504647277:=0
def tw3436067635600285980:=0
def tw3801850119919557013:=0
def tw4635989785427082552:=0
def tw17464319187374939960:=0
def tw140236481695663071:=0
def tw13437419889732721216:=0
def tw8949853181751564097:=0
def tw8908233856664302321:=0
def tw11024694936033576346:=0
def tw13810262117814702294:=0
def tw9796564346219866840:=0
def tw15438627641174518403:=0
def tw2466311954974566718:=0
def tw8374155422468719031:=0
def tw12681666616541194006:=0
def tw10551173667578312727:=0
def tw10342455970750389890:=0
def tw8739830900816887780:=0
def tw3215387988796971590:=0
def tw15402603294489630176:=0
def tw699815216081779126:=0
def tw14935467056822913822:=0
def tw5072417060200589145:=0
def tw2950685276103557050:=0
def tw10161179621583223854:=0
def tw7050804516273991350:=0
def tw6194202620331982285:=0
def tw6798380500665416597:=0
def tw740290905518256060:=0
def tw4307115940973712385:=0
def tw17483705464198625004:=0
def tw11421057715548341654:=0
def tw10792498714594961201:=0
def tw4075453323654395381:=0
def tw7091221385724896812:=0
def tw786537726763496527:=0
def tw17890440400047909864:=0
def tw18157406047293677543:=0
def tw11161164713144168021:=0
def tw2714383194993059839:=0
def tw443766864951011646:=0
def tw10911716485165742097:=0
def tw8422229294311615681:=0
def tw15214748959534726111:=0
def tw2244103112122482387:=0
def tw5649666937502919571:=0
def tw10910644110388302437:=0
def tw1932143949324165434:=0
def tw9456574344343218679:=0
def tw9381626543082597023:=0
def tw10236332898609347644:=0
def tw6128106870883400570:=0
def tw6557801498797044033:=0
def tw17937168697417666835:=0
def tw140001813534094272:=0
def tw4026147355466621588:=0
def tw772564365185477556:=0
def tw11468729153070441980:=0
def tw4077048163395320219:=0
def tw15240619367488684849:=0
def tw12768989823518198380:=0
def tw14664691819916384248:=0
def tw4171853373547519906:=0
def tw12917704675397863716:=0
def tw2403389108928632939:=0
def tw6472337539984862722:=0
def tw12772213712371865176:=0
def tw17137270108147033825:=0
def tw991626836265849350:=0
def tw209982475168477708:=0
def tw14284835775768690865:=0
def tw9972681490609642005:=0
def tw11742174167022748769:=0
end PySem.W.Fast
section
local macro_rules|`(tactic|k_head)=>`(tactic|k_headS)
local macro_rules|`(tactic|w_witness2)=>`(tactic|exact⟨[.list [.int 0,.int 200,.int 10,.int 0]],by decide+kernel,by decide+kernel⟩)
open_top hd for PySem.Challenge.rw_quiltshop_s01_answers
end
local macro_rules|`(#[$x,$xs,*])=>`(⟨$x,$xs,*⟩)
noncomputable section
set_option tactic.hygienic false
abbrev XT:=@List.getElem?_eq_getElem
abbrev XU:=@List.getD_eq_getElem?_getD
abbrev XW:=@Option.some.inj
abbrev XX:=@List.length_map
abbrev XY:=@List.length_append
abbrev XZ:=@List.getElem?_eq_some_iff
abbrev X0:=@Nat.le_refl
abbrev X1:=@List.getElem?_map
abbrev X2:=@List.length_cons
abbrev X3:=@List.size_toArray
abbrev X4:=@PySem.F.plainAttrs_list
abbrev X5:=@List.mem_cons
abbrev X6:=@List.mem_cons_of_mem
abbrev X7:=@List.map_cons
abbrev X8:=@Nat.le_trans
abbrev X9:=@Bool.false_ne_true
abbrev X_:=@List.mem_of_getElem?
abbrev Ya:=@Bool.and_eq_true
abbrev Yb:=@List.mem_range
abbrev Yc:=@decide_eq_true
abbrev Yd:=@Int.toNat_natCast
abbrev Ye:=@Option.eq_none_iff_forall_ne_some
abbrev Yf:=@Nat.lt_of_lt_of_le
abbrev Yg:=@Nat.zero_le
abbrev Yh:=@decide_eq_false
abbrev Yi:=@of_decide_eq_true
abbrev Yj:=@Nat.ne_of_lt
abbrev Yk:=@PySem.F.slot_list_append
abbrev Yl:=@PySem.F.type_list_append
abbrev Ym:=@List.mem_cons_self
abbrev Yn:=@List.getElem?_range
abbrev Yo:=@List.mem_append_right
abbrev Yp:=@List.mem_map
abbrev Yq:=@Nat.lt_of_le_of_lt
abbrev Yr:=@List.mem_append
abbrev Ys:=@List.getElem_mem
abbrev Yt:=@List.flatten_cons
abbrev Yu:=@List.getElem?_eq_none
abbrev Yv:=@List.take_of_length_le
abbrev Yw:=@List.append_assoc
abbrev Yx:=@decide_eq_true_eq
abbrev Yy:=@List.flatMap_cons
abbrev Yz:=@List.length_reverse
abbrev YA:=@List.reverse_cons
abbrev YB:=@List.dropLast_concat
abbrev YC:=@List.append_nil
abbrev YD:=@List.length_nil
abbrev YE:=@List.length_singleton
abbrev YF:=@List.length_take
abbrev YG:=@List.length_eq_zero_iff
abbrev YH:=@List.getElem?_append_right
abbrev YI:=@List.mem_filter
abbrev YJ:=@Int.zero_add
abbrev YK:=@List.lookup_cons
abbrev YL:=@Nat.lt_irrefl
abbrev YM:=@List.foldl_cons
abbrev YN:=@List.length_drop
abbrev YO:=@List.take_length
abbrev YQ:=@List.ext_getElem
abbrev YR:=@PySem.F.plain_min_loop
abbrev YS:=@PySem.F.plain_max_loop
abbrev YT:=@Nat.lt_succ_of_lt
abbrev YU:=@List.drop_eq_getElem_cons
abbrev YV:=@List.contains_iff_mem
abbrev YW:=@PySem.F.slot_list_pop
abbrev YX:=@PySem.F.type_list_pop
abbrev YY:=@Nat.succ_mul
abbrev YZ:=@List.all_eq_true
abbrev Y0:=@List.mem_singleton
abbrev Y1:=@List.map_map
abbrev Y2:=@List.getElem?_replicate
abbrev Y3:=@List.filter_congr
abbrev Y4:=@Bool.eq_iff_iff
abbrev Y5:=@List.nodup_cons
abbrev Y6:=@Bool.or_eq_true
abbrev Y7:=@List.replicate_succ
abbrev Y8:=@List.getElem_of_mem
abbrev Y9:=@List.any_cons
abbrev Y_:=@Bool.false_eq_true
abbrev Za:=@List.length_filter_le
abbrev Zb:=@List.pairwise_cons
abbrev Zc:=@List.take_append_drop
abbrev Zd:=@List.getElem?_append_left
abbrev Ze:=@List.mem_append_left
abbrev Zf:=@List.getElem?_set_ne
abbrev Zg:=@List.find?_cons
abbrev Zh:=@Nat.zero_add
abbrev Zi:=@List.getElem?_set
abbrev Zj:=@List.sum_cons
abbrev Zk:=@Array.length_toList
abbrev Zl:=@List.map_congr_left
abbrev Zm:=@List.getElem?_set_self
abbrev Zn:=@List.getElem?_drop
abbrev Zo:=@Option.map_some
abbrev Zp:=@List.range_succ
abbrev Zq:=@List.length_range
abbrev Zr:=@Nat.ne_of_gt
abbrev Zs:=@Nat.le_add_right
abbrev Zt:=@PySem.F.slot_list_extend
abbrev Zu:=@PySem.F.type_list_extend
abbrev Zv:=@Nat.succ_pos
abbrev Zw:=@List.flatMap_append
abbrev Zx:=@List.mem_map_of_mem
abbrev Zy:=@List.getElem?_take
abbrev Zz:=@List.map_append
abbrev ZA:=@List.drop_of_length_le
abbrev ZC:=@List.foldl_append
abbrev ZD:=@Array.getElem?_toList
abbrev ZE:=@Nat.mul_comm
abbrev ZF:=@Nat.testBit_or
abbrev ZG:=@Nat.add_zero
abbrev ZH:=@Nat.mul_le_mul
abbrev ZI:=@List.getElem_zip
abbrev ZK:=@List.mem_reverse
abbrev ZL:=@List.mem_flatMap
abbrev ZM:=@List.filter_cons
abbrev ZN:=@Nat.add_assoc
abbrev ZO:=@List.flatten_append
abbrev ZP:=@Nat.add_sub_cancel'
abbrev ZR:=@List.length_set
abbrev ZS:=@List.mem_filterMap
abbrev ZT:=@Nat.le_of_lt
abbrev ZU:=@List.map_nil
abbrev ZV:=@List.getElem?_cons_succ
abbrev ZW:=@PySem.F.slot_list_count
abbrev ZY:=@PySem.F.type_list_count
abbrev Z0:=@Nat.le_of_succ_le
abbrev Z1:=@List.ext_getElem?
abbrev Z2:=@Bool.eq_false_iff
abbrev Z3:=@Nat.one_shiftLeft
abbrev Z4:=@PySem.F.entry_min_loop
abbrev Z5:=@PySem.F.entry_max_loop
abbrev Z6:=@List.all_cons
abbrev Z7:=@Nat.succ_ne_self
abbrev Z8:=@Nat.lt_of_not_le
abbrev Z9:=@Nat.testBit_eq_decide_div_mod_eq
abbrev Z_:=@List.length_replicate
abbrev aaa:=@List.eraseIdxIfInBounds_toArray
abbrev aab:=@Nat.le_of_eq
abbrev aac:=@Array.toList_reverse
abbrev aad:=@Nat.mul_le_mul_right
abbrev aae:=@Int.natCast_mul
abbrev aaf:=@Nat.min_eq_left
abbrev aag:=@List.filterMap_cons
abbrev aah:=@List.take_succ_cons
abbrev aai:=@Bool.and_false
abbrev aaj:=@List.drop_zero
abbrev aak:=@List.take_zero
abbrev aal:=@List.zip_cons_cons
abbrev aam:=@Array.size_reverse
abbrev aan:=@Int.fdiv_eq_ediv_of_nonneg
abbrev aao:=@Array.perm_iff_toList_perm
abbrev aap:=@List.pairwise_map
abbrev aaq:=@Nat.le_succ_of_le
abbrev aar:=@Option.mem_toList
abbrev aas:=@List.pairwise_iff_getElem
abbrev aat:=@Nat.lt_succ_self
abbrev aau:=@Option.isSome_iff_exists
abbrev aav:=@List.getElem?_take_of_lt
abbrev aaw:=@Nat.add_comm
abbrev aax:=@Nat.lt_trans
abbrev aay:=@List.getElem_map
abbrev aaz:=@Option.getD_some
abbrev aaA:=@Nat.mul_succ
abbrev aaB:=@List.mem_flatten
abbrev aaC:=@PySem.F.plain_list_iadd
abbrev aaD:=@Nat.add_sub_cancel_left
abbrev aaE:=@List.of_mem_zip
abbrev aaF:=@Nat.not_lt_zero
abbrev aaG:=@Nat.le_succ
abbrev aaH:=@Nat.mul_pos
abbrev aaI:=@List.nodup_nil
abbrev aaJ:=@List.map_drop
abbrev aaK:=@List.map_take
abbrev ZQ:=PySem.Str->Option PySem.Value
abbrev ZX:=PySem.W.Frag
abbrev ZZ:=List (PySem.Addr×PySem.Obj)
abbrev ZJ:=PySem.Value->PySem.Shared->Prop
inductive aX{α β:Type}(P:α->β->Prop):Prop|mk(a:α)(b:β)(_:P a b)
inductive c8{α β γ:Type}(P:α->β->γ->Prop):Prop|mk(a:α)(b:β)(c:γ)(_:P a b c)
inductive lT{α β γ δ:Type}(P:α->β->γ->δ->Prop):Prop|mk(a:α)(b:β)(c:γ)(d:δ)(_:P a b c d)
inductive uz{α β γ δ ε:Type}(P:α->β->γ->δ->ε->Prop):Prop|mk(a:α)(b:β)(c:γ)(d:δ)(e:ε)(_:P a b c d e)
inductive Di{α β γ δ ε ζ:Type}(P:α->β->γ->δ->ε->ζ->Prop):Prop|mk(a:α)(b:β)(c:γ)(d:δ)(e:ε)(f:ζ)(_:P a b c d e f)
inductive Dj{α β γ δ ε ζ η:Type}(P:α->β->γ->δ->ε->ζ->η->Prop):Prop|mk(a:α)(b:β)(c:γ)(d:δ)(e:ε)(f:ζ)(g:η)(_:P a b c d e f g)
inductive Dk{α β γ δ ε ζ η θ ι:Type}(P:α->β->γ->δ->ε->ζ->η->θ->ι->Prop):Prop|mk(a:α)(b:β)(c:γ)(d:δ)(e:ε)(f:ζ)(g:η)(h:θ)(i:ι)(_:P a b c d e f g h i)
inductive KZ{α β γ δ ε ζ η θ ι κ:Type}(P:α->β->γ->δ->ε->ζ->η->θ->ι->κ->Prop):Prop|mk(a:α)(b:β)(c:γ)(d:δ)(e:ε)(f:ζ)(g:η)(h:θ)(i:ι)(j:κ)(_:P a b c d e f g h i j)
namespace L2
open PySem PySem.Spec PyProof.Rows
variable{vs xs:List V}{us:List Value}{u:Value}{H H':Hp}{C L a b dx f it:Addr}{o:HO}{P prog:Program}{w:World}{base h h':Heap}{c e l tg:Expr}{g:TG}{apos p pos pos' tpos:Pos}{X:Cx}{pins:ZZ}{s s':Shared}{g':Array GenState}{i j k n t':Nat}{d':Drawn}{ch fp:List Addr}{N ps:List Str}{M:Model}{A:Around}{v y:V}{σ:St}{ta te ti tl:TE}{tb:TS}{K:ZX}{D:Ends}{tc:TT}{es:List Expr}{body:List Stmt}{lo:Int}{r r':R2}{Q:VK}{op':CmpOp}{mA mg:ZQ}{m name qual:Str}{kw:List (Str×Value)}{outer:List Env}{fd:FuncData}{CX:lU}{sp:Sp}{E:XK}{kindOf:Str->Option NameKind}{scope:Scope}
abbrev Key:=Sum Int Str
def m4:Key->Value->Bool
 |.inl k,v=>Value.isInt k v
 |.inr x,v=>Value.isStrOf x v
def Dl(w:World):Key->Int
 |.inl k=>hashInt k
 |.inr x=>hashStr w x
def kD:∀ {k:Key} {v:Value},m4 k v=true->(aX λi t=>k=Sum.inl i/\v=Value.int i t)\/(aX λx t=>k=Sum.inr x/\v=Value.str x t)
 |.inl i,v,h=>by
  obtain⟨t,e⟩:=Value.isInt_shape (k:=i) (v:=v) h;exact .inl #[i,t,rfl,e]
 |.inr x,v,h=>by
  obtain⟨t,e⟩:=Value.isStrOf_shape (x:=x) (v:=v) h;exact .inr #[x,t,rfl,e]
def K0(i:Int)(t:Tok):m4 (.inl i) (.int i t)=true:=by simp[m4,Value.isInt]
def K1(x:Str)(t:Tok):m4 (.inr x) (.str x t)=true:=by simp[m4,Value.isStrOf]
def K2(a b:Int):decide ((Sum.inl a:Key)=Sum.inl b)=(a==b):=by
 by_cases e:a=b
 .subst e;simp
 .have h:¬(Sum.inl a:Key)=Sum.inl b:=λq=>e (Sum.inl.inj q);rw[Yh h];exact(beq_eq_false_iff_ne.mpr e).symm
def K3(a b:Str):decide ((Sum.inr a:Key)=Sum.inr b)=decide (a=b):=by
 by_cases e:a=b
 .subst e;simp
 .have h:¬(Sum.inr a:Key)=Sum.inr b:=λq=>e (Sum.inr.inj q);rw[Yh h,Yh e]
def K4(a:Int)(b:Str):decide ((Sum.inl a:Key)=Sum.inr b)=false:=Yh (λq=>nomatch q)
def K5(a:Str)(b:Int):decide ((Sum.inr a:Key)=Sum.inl b)=false:=Yh (λq=>nomatch q)
def d5(prog:Program)(w:World):PySem.KeyKind prog w Key where
 is:=m4
 hash:=Dl w
 inj:=λv a b ha hb=>by
  rcases kD ha with⟨i,t,rfl,rfl⟩|⟨x,t,rfl,rfl⟩
  .rcases kD hb with⟨j,u,rfl,e⟩|⟨y,u,rfl,e⟩
   .injection e with e1 _;rw[e1]
   .exact nomatch e
  .rcases kD hb with⟨j,u,rfl,e⟩|⟨y,u,rfl,e⟩
   .exact nomatch e
   .injection e with e1 _;rw[e1]
 byValue:=λk v h=>by
  rcases kD h with⟨i,t,rfl,rfl⟩|⟨x,t,rfl,rfl⟩<;>rfl
 pyHash:=λhv h=>by
  rcases kD hv with⟨i,t,rfl,rfl⟩|⟨x,t,rfl,rfl⟩
  .exact wpAny_pyHash_int h
  .exact wpAny_pyHash_str h
 eqBool:=λhu hv h=>by
  rcases kD hu with⟨i,t,rfl,rfl⟩|⟨x,t,rfl,rfl⟩
  .rcases kD hv with⟨j,u,rfl,rfl⟩|⟨y,u,rfl,rfl⟩
   .rw[K2]at h;exact wpAny_eqBool_int h
   .rw[K4]at h;exact SeqAt.EqAt.int_str i t y u _ _ _ _ h
  .rcases kD hv with⟨j,u,rfl,rfl⟩|⟨y,u,rfl,rfl⟩
   .rw[K5]at h;exact SeqAt.EqAt.str_int x t j u _ _ _ _ h
   .rw[K3]at h;exact wpAny_eqBool_str h
 «strs»:=λk x t v h=>by
  rcases kD h with⟨i,u,rfl,e⟩|⟨y,u,rfl,e⟩
  .exact nomatch e
  .injection e with e1 _;subst e1;cases v<;>rfl
def K6(prog:Program)(w:World)(i:Int)(t:Tok):(d5 prog w).is (.inl i) (.int i t)=true:=K0 i t
def K7(prog:Program)(w:World)(x:Str)(t:Tok):(d5 prog w).is (.inr x) (.str x t)=true:=K1 x t
inductive V where
 |ay|bl (b:Bool)|int (i:Int)|str (x:Str)|d6 (b:Array UInt8)|flt (b:UInt64)|ref (a:Addr)|ty (n:String)
 deriving DecidableEq
def RelV:V->Value->Prop
 |.ay,u=>u=Value.none
 |.bl b,u=>u=Value.bool b
 |.int i,u=>∃t,u=Value.int i t
 |.str x,u=>∃t,u=Value.str x t
 |.d6 b,u=>∃t,u=Value.bytes b t
 |.flt b,u=>∃t,u=Value.float b t
 |.ref a,u=>u=Value.ref a
 |.ty n,u=>u=Value.type n
abbrev Vals:List V->List Value->Prop:=Paired RelV
theorem Vals.length(r:Vals xs us):xs.length=us.length:=Paired.length r
theorem Vals.get:∀ {xs:List V} {us:List Value} {i:Nat} {x:V},Vals xs us->xs[i]?=some x->∃u,us[i]?=some u/\RelV x u
 |_,_,_,_,.nil,e=>by simp at e
 |_,_,0,_,.cons r _,e=>by simp at e;subst e;exact#[_,rfl,r]
 |_,_,i+1,x,.cons _ t,e=>by
  obtain⟨u,h1,h2⟩:=Vals.get (i:=i) (x:=x) t (by simpa using e);exact#[u,by simpa using h1,h2]
theorem Vals.set{x:V}(r:RelV x u):∀ {xs:List V} {us:List Value} (i:Nat),Vals xs us->Vals (xs.set i x) (us.set i u)
 |_,_,_,.nil=>.nil
 |_,_,0,.cons _ t=>.cons r t
 |_,_,i+1,.cons q t=>.cons q (Vals.set r i t)
theorem Vals.append:∀ {xs ys:List V} {us ws:List Value},Vals xs us->Vals ys ws->Vals (xs++ys) (us++ws)
 |_,_,_,_,.nil,s=>s
 |_,_,_,_,.cons r t,s=>.cons r (Vals.append t s)
theorem Vals.take:∀ {xs:List V} {us:List Value} (n:Nat),Vals xs us->Vals (xs.take n) (us.take n)
 |_,_,0,_=>.nil
 |_,_,_+1,.nil=>.nil
 |_,_,n+1,.cons r t=>.cons r (Vals.take n t)
theorem Vals.drop:∀ {xs:List V} {us:List Value} (n:Nat),Vals xs us->Vals (xs.drop n) (us.drop n)
 |_,_,0,r=>r
 |_,_,_+1,.nil=>.nil
 |_,_,n+1,.cons _ t=>Vals.drop n t
def e7:Option V->Option Value->Prop
 |some v,some u=>RelV v u
 |none,none=>True
 |_,_=>False
def KV{κ:Type}:List (κ×V)->List (κ×Value)->Prop:=Paired λ(p:κ×V) (q:κ×Value)=>p.1=q.1/\RelV p.2 q.2
def kV:Key->V
 |.inl i=>.int i
 |.inr x=>.str x
inductive HO where
 |lst (xs:List V)
 |tup (xs:List V)
 |dK (kvs:List (Key×V))|dT (kvs:List (List Key×V))
 |set (S:Int->Bool) (n:Nat)
 |ins (C dx:Addr) (fs:List (Str×V))
 |own (x:Addr)
 |xd (fs:List (Str×V))
 |met (f x:Addr)
 |oX (lo hi:Int)
 |cJ (o:Obj) (u:HO)
 |bK (ps:Array Value)
 |ext (φ:Heap->Prop)
abbrev Hp:=Addr->Option HO
def upd(H:Hp)(a:Addr)(o:HO):Hp:=λb=>if b=a then some o else H b
def ab:upd H a o a=some o:=by unfold upd;rw[if_pos rfl]
def ae(h:b≠a):upd H a o b=H b:=by unfold upd;rw[if_neg h]
def d7{u:HO}:upd (upd H a o) a u=upd H a u:=by
 funext b;unfold upd;split<;>rfl
def K8{u:HO}(h:H a=some o)(h':H b=some u)(d:o≠u):a≠b:=by
 intro e;subst e;rw[h]at h';exact d (XW h')
def bH(h:H a=some o)(h':H b=none):a≠b:=by
 intro e;subst e;rw[h]at h';cases h'
section
variable(P:Program)(w:World)
def cu(H:Hp)(h:Heap)(a:Addr):HO->Prop
 |.lst xs=>xs.length<=sizeLine/\aX λ(its:List Value) (n:Nat)=>Vals xs its/\h.get? a=some {cls:=.type "list",data:=.seq its.toArray n}
 |.tup xs=>xs.length<=sizeLine/\∃its:List Value,Vals xs its/\IsTup h a its.toArray
 |.dK kvs=>kvs.length<=sizeLine/\(a==sysModules)=false/\∃vs,KV kvs vs/\h.DictOf (d5 P w) a vs
 |.dT kvs=>kvs.length<=sizeLine/\(a==sysModules)=false/\∃xs:List (List Key×Addr×Value),
   Paired (λ(p:List Key×V) (q:List Key×Addr×Value)=>p.1=q.1/\H q.2.1=some (.tup (p.1.map kV))/\RelV p.2 q.2.2) kvs xs/\
   c8 λo es ep=>h.get? a=some o/\o.ExactDict/\o.data=.dict es ep/\es.toList=xs.map (entryOfKey (tupleKind (d5 P w)))/\(xs.map (·.1)).Nodup
 |.set S n=>h.SetOf (intKind P w) a S n
 |.ins C dx fs=>H dx=some (.own a)/\fs.length<=1000/\dx≠a/\h.get? a=some (PySem.W.instObj C dx)/\
   ∃mA,h.Ns1 dx mA/\(∀f,e7 (fs.lookup f) (mA f))/\PySem.Within mA (fs.map (·.1))
 |.own _=>∃o,h.get? a=some o
 |.xd fs=>∃mA,h.Ns1 a mA/\∀f,e7 (fs.lookup f) (mA f)
 |.oX lo hi=>c8 λt u v=>h.get? a=some {cls:=.type "range",data:=.fields [.int lo t,.int hi u,.int 1 v].toArray}
 |.cJ o u=>h.get? a=some o/\cu H h a u
 |.bK ps=>h.get? a=some {cls:=.none,data:=.fields ps}
 |.met f x=>h.get? a=some (PySem.W.methodObj (.ref f) (.ref x))
 |.ext φ=>φ h/\(∃o,h.get? a=some o)/\∀h1 h2:Heap,φ h1->(∀o,h1.get? a=some o->h2.get? a=some o)->φ h2
def bY(H:Hp)(h:Heap):Prop:=∀a o,H a=some o->cu P w H h a o
end
theorem cu.lt(x:cu P w H h a o):a<h.objs.size:=by
 cases o with|lst xs=>obtain⟨_,_,_,_,e⟩:=x;exact Heap.lt_size e|tup xs=>obtain⟨_,_,_,p⟩:=x;exact p.lt|dK kvs=>obtain⟨_,_,_,_,o,_,_,e,_⟩:=x;exact Heap.lt_size e|dT kvs=>obtain⟨_,_,_,_,o,_,_,e,_⟩:=x;exact Heap.lt_size e|set S n=>obtain⟨o,_,_,_,e,_⟩:=x;exact Heap.lt_size e|ins C dx fs=>obtain⟨_,_,_,e,_⟩:=x;exact Heap.lt_size e|own y=>obtain⟨_,e⟩:=x;exact Heap.lt_size e|xd fs=>obtain⟨_,⟨_,_,_,e,_⟩,_⟩:=x;exact Heap.lt_size e|oX lo hi=>obtain⟨_,_,_,e⟩:=x;exact Heap.lt_size e|cJ ob u=>obtain⟨e,_⟩:=x;exact Heap.lt_size e|bK ps=>exact Heap.lt_size (show h.get? a=some _ from x)|met f y=>exact Heap.lt_size (show h.get? a=some _ from x)|ext φ=>obtain⟨_,⟨_,e⟩,_⟩:=x;exact Heap.lt_size e
theorem Paired.aY{α β:Type}{F G:α->β->Prop}:∀ {l₁:List α} {l₂:List β},Paired F l₁ l₂->(∀a b,F a b->G a b)->Paired G l₁ l₂
 |_,_,.nil,_=>.nil
 |_,_,.cons r t,f=>.cons (f _ _ r) (Paired.aY t f)
def cu.gQ(x:cu P w H h a o)(k:∀b u,(b=a\/H b=some (.own a))->h.get? b=some u->h'.get? b=some u)
  (ho:∀b,H b=some (.own a)->H' b=some (.own a)) (ht:∀b xs,H b=some (.tup xs)->H' b=some (.tup xs)):cu P w H' h' a o:=by
 induction o with
 |lst xs=>obtain⟨z,its,n,r,e⟩:=x;exact#[z,its,n,r,k _ _ (.inl rfl) e]
 |tup xs=>obtain⟨z,its,r,ob,e,c⟩:=x;exact#[z,its,r,ob,k _ _ (.inl rfl) e,c]
 |dK kvs=>obtain⟨z,y,vs,r,ob,es,ep,e,c⟩:=x;exact#[z,y,vs,r,ob,es,ep,k _ _ (.inl rfl) e,c]
 |dT kvs=>
  obtain⟨z,y,xs,r,ob,es,ep,e,c⟩:=x;exact#[z,y,xs,Paired.aY r λp q z=>#[z.1,ht _ _ z.2.1,z.2.2],ob,es,ep,k _ _ (.inl rfl) e,c]
 |set S n=>obtain⟨ob,es,ep,t,e,c⟩:=x;exact#[ob,es,ep,t,k _ _ (.inl rfl) e,c]
 |ins C dx fs=>
  obtain⟨d,z,ne,e,mA,⟨od,es,ep,e2,c⟩,r⟩:=x;exact#[ho _ d,z,ne,k _ _ (.inl rfl) e,mA,#[od,es,ep,k _ _ (.inr d) e2,c],r]
 |own y=>obtain⟨ob,e⟩:=x;exact#[ob,k _ _ (.inl rfl) e]
 |xd fs=>obtain⟨mA,⟨od,es,ep,e,c⟩,r⟩:=x;exact#[mA,#[od,es,ep,k _ _ (.inl rfl) e,c],r]
 |oX lo hi=>obtain⟨t,u,v,e⟩:=x;exact#[t,u,v,k _ _ (.inl rfl) e]
 |cJ ob u ih=>obtain⟨e,q⟩:=x;exact#[k _ _ (.inl rfl) e,ih q]
 |bK ps=>
  have e:h.get? a=some {cls:=.none,data:=.fields ps}:=x;show h'.get? a=some {cls:=.none,data:=.fields ps};exact k a _ (.inl rfl) e
 |met f y=>
  have e:h.get? a=some (PySem.W.methodObj (.ref f) (.ref y)):=x;show h'.get? a=some (PySem.W.methodObj (.ref f) (.ref y));exact k a _ (.inl rfl) e
 |ext φ=>obtain⟨p,⟨o,e⟩,st⟩:=x;exact#[st _ _ p λo q=>k _ _ (.inl rfl) q,#[o,k _ _ (.inl rfl) e],st]
theorem bY.lt(x:bY P w H h)(e:H a=some o):a<h.objs.size:=(x a o e).lt
def bY.fresh(x:bY P w H h)(e:h.objs.size<=a):H a=none:=by
 cases q:H a with|none=>rfl|some u=>exact absurd (Yf (x.lt q) e) (YL _)
def bY.kept(x:bY P w H h)(k:∀b u,h.get? b=some u->h'.get? b=some u):bY P w H h':=λa o e=>
 (x a o e).gQ (λb u _ q=>k b u q) (λ_ q=>q) λ_ _ q=>q
def bY.laid(x:bY P w H h)(k:∀b u,h.get? b=some u->h'.get? b=some u)(hp:h.objs.size<=a)(new:cu P w (upd H a o) h' a o):bY P w (upd H a o) h':=λb u e=>by
 have hn:=x.fresh hp;by_cases hb:b=a
 .subst hb;rw[ab]at e;cases e;exact new
 .rw[ae hb]at e;exact(x b u e).gQ (λc v _ q=>k c v q) (λc q=>by rw[ae (bH q hn)];exact q) λc xs q=>by rw[ae (bH q hn)];exact q
def Rd(H:Hp)(a:Addr)(u:HO):Prop:=H a=some u\/∃o,H a=some (.cJ o u)
def Rd.ok{u:HO}(r:Rd H a u)(x:bY P w H h):cu P w H h a u:=by
 rcases r with r|⟨o,r⟩
 .exact x a u r
 .obtain⟨_,q⟩:=x a _ r;exact q
def rg:Option HO->Prop
 |some (.lst _)=>True
 |some (.dK _)=>True
 |some (.dT _)=>True
 |some (.set _ _)=>True
 |some (.ins _ _ _)=>True
 |some (.ext _)=>True
 |_=>False
section
variable{x e:Addr}{o':HO}
def bY.write(ok:bY P w H h)(mu:rg (H x))(he:e=x\/H e=some (.own x))(k:∀b u,b≠e->h.get? b=some u->h'.get? b=some u)(heo:∃u,h'.get? e=some u)
  (new:cu P w (upd H x o') h' x o'):bY P w (upd H x o') h':=λb u q=>by
 have Dm:∀c y,H c=some (.own y)->c≠x:=λc y r z=>by subst z;rw[r]at mu;exact mu
 have K9:∀c xs,H c=some (.tup xs)->c≠x:=λc xs r z=>by subst z;rw[r]at mu;exact mu
 by_cases hb:b=x
 .subst hb;rw[ab]at q;cases q;exact new
 .rw[ae hb]at q;by_cases hbe:b=e
  .have q':H b=some (.own x):=by
    rcases he with z|z
    .exact absurd (hbe.trans z) hb
    .rw[hbe];exact z
   rw[q]at q';cases q';obtain⟨v,hv⟩:=heo;exact#[v,by rw[hbe];exact hv]
  .refine(ok b u q).gQ (λc v hc r=>k c v ?_ r) (λc r=>by rw[ae (Dm c b r)];exact r) λc xs r=>by rw[ae (K9 c xs r)];exact r
   rcases hc with rfl|hc
   .exact hbe
   .rintro rfl;rcases he with z|z
    .exact Dm c b hc z
    .rw[hc]at z;cases z;exact hb rfl
end
structure Un(fs ex:List Addr)(H H':Hp)(h h':Heap):Prop where
 keep:∀b o,h.get? b=some o->H b=none->b∉fs->b∉ex->h'.get? b=some o
 slot:∀b o,h.get? b=some o->H b=none->b∈fs->b∉ex->∃sl,h'.get? b=some {o with slots:=sl}
 free:∀b o,h.get? b=some o->H b=none->b∉ex->H' b=none
 there:∀b o,h.get? b=some o->b∉ex->∃o',h'.get? b=some o'
 di:∀b xs,H b=some (.tup xs)->H' b=some (.tup xs)
 iD:∀b o u,H b=some (.cJ o u)->H' b=some (.cJ o u)
 iE:∀b ps,H b=some (.bK ps)->∃more,H' b=some (.bK (ps++more))
section
variable{fs fs' ex ex':List Addr}{H1 H2:Hp}{h1 h2:Heap}{x e:Addr}
def Un.any(u:Un fs ex H H1 h h1){ob:Obj}(q:h.get? b=some ob)(n:H b=none)(hx:b∉ex):∃sl,h1.get? b=some {ob with slots:=sl}:=by
 by_cases hb:b∈fs
 .exact u.slot b ob q n hb hx
 .exact#[ob.slots,u.keep b ob q n hb hx]
def Un.kept(k:∀b u,h.get? b=some u->h'.get? b=some u):Un fs ex H H h h':=
 #[λb ob q _ _ _=>k b ob q,λb ob q _ _ _=>#[ob.slots,k b ob q],λ_ _ _ n _=>n,λb ob q _=>#[ob,k b ob q],λ_ _ q=>q,λ_ _ _ q=>q,λ_ ps q=>#[#[],by rw[q];simp]]
def Un.refl:Un fs ex H H h h:=Un.kept λ_ _ q=>q
def Un.laid(k:∀b u,h.get? b=some u->h'.get? b=some u)(hp:h.objs.size<=a)(hn:H a=none):Un fs ex H (upd H a o) h h' where
 keep:=λb u q _ _ _=>k b u q
 slot:=λb u q _ _ _=>#[u.slots,k b u q]
 free:=λb u q n _=>by rw[ae (Yj (Yf (Heap.lt_size q) hp))];exact n
 there:=λb u q _=>#[u,k b u q]
 di:=λb xs q=>by rw[ae (bH q hn)];exact q
 iD:=λb u xs q=>by rw[ae (bH q hn)];exact q
 iE:=λb ps q=>#[#[],by rw[ae (bH q hn),q];simp]
def Un.write(mu:rg (H x))(he:e=x\/H e=some (.own x))(k:∀b u,b≠e->h.get? b=some u->h'.get? b=some u)(heo:∃u,h'.get? e=some u):Un fs ex H (upd H x o) h h':=by
 have hx:∀b,H b=none->b≠x:=λb n z=>by subst z;rw[n]at mu;exact mu
 have hb:∀b,H b=none->b≠e:=λb n z=>by
  subst z;rcases he with r|r
  .exact hx b n r
  .rw[n]at r;cases r
 have hm:∀b u,H b=some u->¬rg (some u)->b≠x:=λb u q nm z=>by subst z;rw[q]at mu;exact nm mu
 refine#[λb u q n _ _=>k b u (hb b n) q,λb u q n _ _=>#[u.slots,k b u (hb b n) q],λb u q n _=>by rw[ae (hx b n)];exact n,λb u q _=>?_,
  λb xs q=>by rw[ae (hm b _ q λz=>z)];exact q,λb u xs q=>by rw[ae (hm b _ q λz=>z)];exact q,λb ps q=>#[#[],by rw[ae (hm b _ q λz=>z),q];simp]]
 by_cases hbe:b=e
 .subst hbe;exact heo
 .exact#[u,k b u hbe q]
end
def uA(h:Heap)(H:Hp):List Addr:=(List.range h.objs.size).filter λa=>(H a).isSome
def i5(h:Heap)(H:Hp):Heap:=PySem.W.hideAll h (uA h H)
def K_(h:Heap)(H:Hp):(i5 h H).objs.size=h.objs.size:=PySem.W.hideAll_size _ _
def La{o:Obj}(e:h.get? b=some o)(n:H b=none):(i5 h H).get? b=some o:=
 PySem.W.hideAll_get _ e λhm=>by
  have q:(H b).isSome=true:=(YI.mp hm).2;rw[n]at q;simp at q
def Lb{o:Obj}(e:(i5 h H).get? b=some o):h.get? b=some o/\H b=none:=by
 have e':h.get? b=some o:=PySem.W.of_hideAll (uA h H) e;refine#[e',?_];cases q:H b with|none=>rfl|some x=>
  have hm:b∈uA h H:=YI.mpr #[Yb.mpr (Heap.lt_size e'),by simp[q]];have z:(i5 h H).get? b=none:=PySem.W.hideAll_none (uA h H) hm;rw[z]at e;cases e
def uB(g h:Heap)(L:Addr):List (Addr×Obj):=(List.range h.objs.size).filterMap λa=>if a=L\/(g.get? a).isSome=true then none else(h.get? a).map λo=>(a,o)
def Lc{g:Heap}{o:Obj}(h1:a≠L)(h2:g.get? a=none)(h3:h.get? a=some o):(a,o)∈uB g h L:=
 ZS.mpr #[a,Yb.mpr (Heap.lt_size h3),by simp[h1,h2,h3]]
def Ld{g:Heap}{p:Addr×Obj}(hp:p∈uB g h L):p.1≠L/\g.get? p.1=none/\h.get? p.1=some p.2:=by
 obtain⟨b,_,e⟩:=ZS.mp hp;split at e
 .cases e
 .rename_i hn;cases q:h.get? b with|none=>rw[q]at e;simp at e|some u=>
   rw[q]at e;simp only[Zo,Option.some.injEq]at e;subst e;refine#[λz=>hn (.inl z),?_,q];show g.get? b=none;cases r:g.get? b with|none=>rfl|some v=>exact(hn (.inr (by simp[r]))).elim
def Le{g:Heap}:News g L h (uB g h L):=λp hp=>let⟨a,b,c⟩:=Ld hp;#[c,a,b]
structure Mod(K:ZX)(mg:ZQ)(base:Heap):Prop where
 rh:K.In base
 glob:base.Ns mainGlobals mg
 blt:∃mb,base.Ns builtinsNs mb/\∀x:Str,x≠"__name__"->mb x=bootBuiltins x
 nolimit:base.NoLimit
structure Cx where
 prog:Program
 w:World
 K:PySem.W.Frag
 mg:Str->Option Value
 base:Heap
 A:Around
 N:List Str
 dm:Shared
 oY:Hp
 env:Env
 outer:List Env
 stack:List Env
 ex:List Addr
 fn:Str->Bool
 calm:Bool
 pn:List (Addr×Obj)
 xe:Value->Shared->Prop
def i9(l:List Env):List Addr:=l.filterMap (·.frame)
abbrev Cx.fs(X:Cx):List Addr:=i9 X.outer
def m5(sc:Scope)(x:Str):Prop:=sc.names.lookup x=some .local\/sc.names.lookup x=some .cell\/sc.names.lookup x=some .free
def Loc(sc:Scope)(x:Str):Prop:=sc.names.lookup x=some .local\/sc.names.lookup x=some .cell
def Look(env:Env)(h:Heap)(m:ZQ)(x:Str)(u:Value):Prop:=
 (env.kindOf x=some .local/\m x=some u)\/((env.kindOf x=some .cell\/env.kindOf x=some .free)/\∃c,env.cells.lookup x=some c/\h.IsCell c (some u))
structure Cx.Ok(X:Cx):Prop where
 mod:Mod X.K X.mg X.base
 kind:X.env.scope.kind=.function
 glob:X.env.globals=mainGlobals
 blt:X.env.builtins=builtinsNs
 above:X.dm.heap.objs.size<=X.env.locals
 inj:∀x y c,X.env.cells.lookup x=some c->X.env.cells.lookup y=some c->x=y
 has:∀x,(X.env.kindOf x=some .cell\/X.env.kindOf x=some .free)->∃c,X.env.cells.lookup x=some c
 rj:∀x c,X.fn x=true->X.env.cells.lookup x=some c->X.dm.heap.objs.size<=c
 hd:X.calm=true->X.A.handled=none
 frames:X.A.frames=some X.stack
 fB:X.stack=X.outer\/(X.stack=X.env::X.outer/\X.env.frame=some X.env.locals)
 uC:∀b∈X.ex,b≠X.env.locals/\∀x c,X.env.cells.lookup x=some c->c≠b
 bs:∀b o,X.base.get? b=some o->X.dm.heap.get? b=some o/\X.oY b=none
 iF:X.base.objs.size<=X.dm.heap.objs.size
 rk:∀b o,X.base.get? b=some o->b∉X.ex
 oZ:∀b∈X.ex,b∉X.fs
 gR:X.dm.heap.FunFrames X.base X.outer
 lV:∀b∈X.fs,X.oY b=none
structure Inv(X:Cx)(pins:ZZ)(σ:List (Option V))(H:Hp)(s:Shared):Prop where
 ok:X.Ok
 os:s.os=X.dm.os
 bare:AllBare s.gens
 base:Un X.fs X.ex X.oY H X.dm.heap s.heap
 loc:∃m,s.heap.Ns X.env.locals m/\∀(i:Nat) (x:Str) (v:V),X.N[i]?=some x->σ[i]?=some (some v)->m5 X.env.scope x->∃u,RelV v u/\Look X.env s.heap m x u
 cell:∀x c,X.env.cells.lookup x=some c->∃v,s.heap.IsCell c v
 free:H X.env.locals=none
 fC:∀x c,X.env.cells.lookup x=some c->H c=none
 pin:∀p∈X.pn++pins,s.heap.get? p.1=some p.2/\H p.1=none/\p.1≠X.env.locals/\p.1∉X.fs/\∀v,p.2.data≠.cell v
 aJ:bY X.prog X.w H s.heap
 len:σ.length=X.N.length
section
variable{σ:List (Option V)}
def Cx.Ok.Lf(ok:X.Ok){o:Obj}(e:X.base.get? b=some o):b∉X.fs:=λhb=>by
 have:=(ok.gR.mem hb).1;rw[e]at this;cases this
theorem Inv.bs(I:Inv X pins σ H s):∀b o,X.base.get? b=some o->s.heap.get? b=some o/\H b=none:=λb o e=>
 #[I.base.keep b o (I.ok.bs b o e).1 (I.ok.bs b o e).2 (I.ok.Lf e) (I.ok.rk b o e),I.base.free b o (I.ok.bs b o e).1 (I.ok.bs b o e).2 (I.ok.rk b o e)]
def Inv.bk(I:Inv X pins σ H s):∀b o,X.base.get? b=some o->s.heap.get? b=some o:=λb o e=>(I.bs b o e).1
theorem Inv.mod(I:Inv X pins σ H s):Mod X.K X.mg X.base:=I.ok.mod
def Inv.e8(I:Inv X pins σ H s):X.K.In s.heap:=I.ok.mod.rh.keeps I.bk
theorem Inv.nolimit(I:Inv X pins σ H s):s.heap.NoLimit:=I.ok.mod.nolimit.keeps I.bk
def Inv.fr(I:Inv X pins σ H s):∃m,Fr X.base X.env.locals s.heap m:=
 let⟨m,hn,_⟩:=I.loc
 #[m,hn,I.bk,X8 I.ok.iF I.ok.above]
theorem Inv.lt(I:Inv X pins σ H s):X.env.locals<s.heap.objs.size:=let⟨_,hn,_⟩:=I.loc;hn.lt
def Inv.sz(I:Inv X pins σ H s):X.dm.heap.objs.size<=s.heap.objs.size:=X8 I.ok.above (ZT I.lt)
def Inv.Lg(I:Inv X pins σ H s)(h:s.heap.objs.size<=a):a∉X.fs:=λhb=>by
 obtain⟨_,o,ho,_⟩:=I.ok.gR.mem hb;exact absurd (Yf (Heap.lt_size ho) (X8 I.sz h)) (YL _)
def Inv.m6(I:Inv X pins σ H s):∀x c,X.env.cells.lookup x=some c->c≠X.env.locals:=λx c e z=>by
 obtain⟨v,o,ho,hd⟩:=I.cell x c e;obtain⟨m,⟨o',es,ep,ho',hd',_⟩,_⟩:=I.loc;rw[z,ho']at ho;cases ho;rw[hd']at hd;cases hd
theorem Inv.gR(I:Inv X pins σ H s):s.heap.FunFrames X.base X.outer:=by
 have all:∀(l:List Env),(∀b∈i9 l,b∈X.fs)->X.dm.heap.FunFrames X.base l->s.heap.FunFrames X.base l:=by
  intro l
  induction l with|nil=>intro _ _;trivial|cons env r ih=>
   intro hs hl;obtain⟨hk,⟨L,o,hf,hn,ho,hd⟩,hr⟩:=hl;have hL:L∈X.fs:=hs L (by unfold i9;rw[aag,hf];exact Ym);obtain⟨sl,e⟩:=I.base.slot L o ho (I.ok.lV L hL) hL λz=>I.ok.oZ L z hL;exact#[hk,#[L,_,hf,hn,e,hd],ih (λb hb=>hs b (by unfold i9;rw[aag,hf];exact X6 _ hb)) hr]
 exact all X.outer (λ_ hb=>hb) I.ok.gR
theorem Inv.stack(I:Inv X pins σ H s):s.heap.FunFrames X.base X.stack:=by
 rcases I.ok.fB with e|⟨e,hf⟩
 .rw[e];exact I.gR
 .rw[e];obtain⟨m,hn,_⟩:=I.loc;refine .cons (by rw[I.ok.kind];decide) hf hn ?_ I.gR;exact Heap.get?_none_of_le (X8 I.ok.iF I.ok.above)
def Inv.xV(I:Inv X pins σ H s):∀b∈i9 X.stack,b∈X.env.locals::X.fs:=λb hb=>by
 rcases I.ok.fB with e|⟨e,hf⟩
 .rw[e]at hb;exact X6 _ hb
 .rw[e]at hb;unfold i9 at hb;rw[aag,hf]at hb;exact hb
def Inv.xW(I:Inv X pins σ H s):∀b∈i9 X.stack,H b=none:=λb hb=>by
 rcases X5.mp (I.xV b hb)with e|hb
 .rw[e];exact I.free
 .obtain⟨_,o,ho,_⟩:=I.ok.gR.mem hb;exact I.base.free b o ho (I.ok.lV b hb) λz=>I.ok.oZ b z hb
def Inv.step{g':Array GenState}{t':Nat}{d':Drawn}{ch:List Addr}(I:Inv X pins σ H s)
  (hch:∀b∈ch,(b∈X.ex\/X.dm.heap.objs.size<=b)/\b≠X.env.locals/\(∀x c,X.env.cells.lookup x=some c->c≠b)/\∀p∈X.pn++pins,p.1≠b)
  (keep:∀b o,b≠X.env.locals->b∉X.fs->b∉ch->s.heap.get? b=some o->H b=none->h'.get? b=some o)
  (slot:∀b o,b≠X.env.locals->b∈X.fs->b∉ch->s.heap.get? b=some o->H b=none->∃sl,h'.get? b=some {o with slots:=sl}) (free:∀b o,b∉ch->s.heap.get? b=some o->H b=none->H' b=none)
  (there:∀b o,b∉ch->s.heap.get? b=some o->∃o',h'.get? b=some o')
  (di:∀b xs,H b=some (.tup xs)->H' b=some (.tup xs)) (iD:∀b o u,H b=some (.cJ o u)->H' b=some (.cJ o u)) (iE:∀b ps,H b=some (.bK ps)->∃more,H' b=some (.bK (ps++more)))
  (ns:∀m,s.heap.Ns X.env.locals m->h'.Ns X.env.locals m) (aJ:bY X.prog X.w H' h') (hg:AllBare g'):
  Inv X pins σ H' {s with heap:=h',gens:=g',drawn:=d',toks:=t'}:=by
 have Dn:∀b o,X.dm.heap.get? b=some o->b≠X.env.locals:=λb o e=>Yj (Yf (Heap.lt_size e) I.ok.above);have uD:∀b o,X.dm.heap.get? b=some o->b∉X.ex->b∉ch:=λb o e hx hb=>by
  rcases(hch b hb).1 with z|z
  .exact hx z
  .exact absurd (Yf (Heap.lt_size e) z) (YL _)
 have cellK:∀x c,X.env.cells.lookup x=some c->∀v,s.heap.IsCell c v->h'.IsCell c v:=λx c e v ⟨o,ho,hd⟩=>by
  have rl:c∉ch:=λz=>(hch c z).2.2.1 x c e rfl;by_cases hc:c∈X.fs
  .obtain⟨sl,q⟩:=slot c o (I.m6 x c e) hc rl ho (I.fC x c e);exact#[_,q,hd]
  .exact#[o,keep c o (I.m6 x c e) hc rl ho (I.fC x c e),hd]
 refine#[I.ok,I.os,hg,#[λb o e n hb hx=>?_,λb o e n hb hx=>?_,λb o e n hx=>?_,λb o e hx=>?_,λb xs e=>di b xs (I.base.di b xs e),λb o xs e=>iD b o xs (I.base.iD b o xs e),λb ps e=>?_],?_,λx c e=>?_,?_,λx c e=>?_,λp hp=>?_,aJ,I.len]
 .exact keep b o (Dn b o e) hb (uD b o e hx) (I.base.keep b o e n hb hx) (I.base.free b o e n hx)
 .obtain⟨sl,e1⟩:=I.base.slot b o e n hb hx;obtain⟨sl',e2⟩:=slot b _ (Dn b o e) hb (uD b o e hx) e1 (I.base.free b o e n hx);exact#[sl',e2]
 .obtain⟨o',e1⟩:=I.base.there b o e hx;exact free b o' (uD b o e hx) e1 (I.base.free b o e n hx)
 .obtain⟨o',e1⟩:=I.base.there b o e hx;exact there b o' (uD b o e hx) e1
 .obtain⟨m1,e1⟩:=I.base.iE b ps e;obtain⟨m2,e2⟩:=iE b _ e1;exact#[m1++m2,by rw[e2,Array.append_assoc]]
 .obtain⟨m,hn,hl⟩:=I.loc;refine#[m,ns m hn,λi x v e1 e2 e3=>?_];obtain⟨u,r,l⟩:=hl i x v e1 e2 e3;refine#[u,r,?_];rcases l with l|⟨k,c,e,z⟩
  .exact .inl l
  .exact .inr #[k,c,e,cellK x c e _ z]
 .obtain⟨v,z⟩:=I.cell x c e;exact#[v,cellK x c e v z]
 .obtain⟨m,⟨o,_,_,ho,_⟩,_⟩:=I.loc;exact free _ o (λz=>(hch _ z).2.1 rfl) ho I.free
 .obtain⟨v,o,ho,hd⟩:=I.cell x c e;exact free c o (λz=>(hch c z).2.2.1 x c e rfl) ho (I.fC x c e)
 .obtain⟨e,n,ne,nf,d⟩:=I.pin p hp;have rl:p.1∉ch:=λz=>(hch p.1 z).2.2.2 p hp rfl;exact#[keep p.1 p.2 ne nf rl e n,free p.1 p.2 rl e n,ne,nf,d]
def Inv.un(I:Inv X pins σ H s)(u:Un X.fs [] H H' s.heap h')(aJ:bY X.prog X.w H' h'):Inv X pins σ H' {s with heap:=h',toks:=t'}:=by
 obtain⟨m,⟨o,es,ep,ho,r⟩,_⟩:=id I.loc;obtain⟨sl,hL⟩:=u.any ho I.free (by simp);exact I.step (g':=s.gens) (d':=s.drawn) (ch:=[]) (λ_ z=>nomatch z) (λb o _ hb _ e n=>u.keep b o e n hb (by simp)) (λb o _ hb _ e n=>u.slot b o e n hb (by simp)) (λb o _ e n=>u.free b o e n (by simp)) (λb o _ e=>u.there b o e (by simp)) u.di u.iD u.iE (λm' hm=>by
  obtain⟨o',es',ep',ho',r'⟩:=hm;rw[ho]at ho';cases ho';exact#[_,es',ep',hL,r']) aJ I.bare
def Inv.call(I:Inv X pins σ H s)(u:Un (i9 X.stack) ch H H' s.heap h')(aJ:bY X.prog X.w H' h')(hg:AllBare g')
  (hch:∀b∈ch,(b∈X.ex\/X.dm.heap.objs.size<=b)/\b≠X.env.locals/\(∀x c,X.env.cells.lookup x=some c->c≠b)/\∀p∈X.pn++pins,p.1≠b):
  Inv X pins σ H' {s with heap:=h',gens:=g',drawn:=d',toks:=t'}:=by
 obtain⟨m,⟨o,es,ep,ho,r⟩,_⟩:=id I.loc;obtain⟨sl,hL⟩:=u.any ho I.free λz=>(hch _ z).2.1 rfl;exact I.step (ch:=ch) hch (λb o hL hb hc e n=>u.keep b o e n (λz=>(X5.mp (I.xV b z)).elim hL hb) hc) (λb o _ _ hc e n=>u.any e n hc) (λb o hc e n=>u.free b o e n hc) (λb o hc e=>u.there b o e hc) u.di u.iD u.iE (λm' hm=>by
  obtain⟨o',es',ep',ho',r'⟩:=hm;rw[ho]at ho';cases ho';exact#[_,es',ep',hL,r']) aJ hg
def Inv.turned(I:Inv X pins σ H s)(k:∀b o,b≠it->s.heap.get? b=some o->h'.get? b=some o)(hn:H it=none)(hL:it≠X.env.locals)
  (h1:it∈X.ex\/X.dm.heap.objs.size<=it) (h2:∀x c,X.env.cells.lookup x=some c->c≠it) (h3:∀p∈X.pn++pins,p.1≠it):Inv X pins σ H {s with heap:=h',toks:=t'}:=by
 have lW:∀b u,H b=some u->b≠it:=λb u e z=>by rw[z,hn]at e;cases e
 refine I.step (g':=s.gens) (d':=s.drawn) (ch:=[it]) (λb hb=>?_) (λb o _ _ hc e _=>k b o (λz=>hc (by simp[z])) e) (λb o _ _ hc e _=>#[o.slots,k b o (λz=>hc (by simp[z])) e]) (λ_ _ _ _ n=>n)
  (λb o hc e=>#[o,k b o (λz=>hc (by simp[z])) e]) (λ_ _ e=>e) (λ_ _ _ e=>e) (λb ps e=>#[#[],by rw[e];simp]) (λm hm=>?_) (λb u e=>?_) I.bare
 .have e:b=it:=by simpa using hb
  subst e;exact#[h1,hL,h2,h3]
 .obtain⟨o,es,ep,ho,r⟩:=hm;exact#[o,es,ep,k _ o (Ne.symm hL) ho,r]
 .refine(I.aJ b u e).gQ (λc v hc q=>k c v ?_ q) (λ_ q=>q) λ_ _ q=>q;rcases hc with z|z
  .rw[z];exact lW b u e
  .exact lW c _ z
def Inv.tok(I:Inv X pins σ H s)(t:Nat):Inv X pins σ H {s with toks:=t}:=I.un (h':=s.heap) (t':=t) Un.refl I.aJ
theorem Inv.kept(I:Inv X pins σ H s)(k:∀b u,s.heap.get? b=some u->h'.get? b=some u):Inv X pins σ H {s with heap:=h',toks:=t'}:=I.un (Un.kept k) (I.aJ.kept k)
theorem Inv.laid(I:Inv X pins σ H s)(k:∀b u,s.heap.get? b=some u->h'.get? b=some u)(hp:s.heap.objs.size<=a)(new:cu X.prog X.w (upd H a o) h' a o):
  Inv X pins σ (upd H a o) {s with heap:=h',toks:=t'}:=I.un (Un.laid k hp (I.aJ.fresh hp)) (I.aJ.laid k hp new)
theorem Inv.write{x e:Addr}(I:Inv X pins σ H s)(mu:rg (H x))(he:e=x\/H e=some (.own x))(k:∀b u,b≠e->s.heap.get? b=some u->h'.get? b=some u)(heo:∃u,h'.get? e=some u)
  (new:cu X.prog X.w (upd H x o) h' x o):Inv X pins σ (upd H x o) {s with heap:=h',toks:=t'}:=I.un (Un.write mu he k heo) (I.aJ.write mu he k heo new)
def Inv.weak{σ':List (Option V)}(I:Inv X pins σ H s)(hl:σ'.length=σ.length)(w:∀(i:Nat) v,σ'[i]?=some (some v)->σ[i]?=some (some v)):Inv X pins σ' H s:=
 #[I.ok,I.os,I.bare,I.base,let⟨m,hn,hl'⟩:=I.loc;#[m,hn,λi x v e1 e2 e3=>hl' i x v e1 (w i v e2) e3],I.cell,I.free,I.fC,I.pin,I.aJ,hl.trans I.len]
def Inv.uE{Dq:ZZ}(I:Inv X pins σ H s)(h:∀p∈Dq,s.heap.get? p.1=some p.2/\H p.1=none/\p.1≠X.env.locals/\p.1∉X.fs/\∀v,p.2.data≠.cell v):Inv X Dq σ H s:=
 #[I.ok,I.os,I.bare,I.base,I.loc,I.cell,I.free,I.fC,λp hp=>(Yr.mp hp).elim (λz=>I.pin p (Ze _ z)) (h p),I.aJ,I.len]
def xX(hN:N.Nodup){x:Str}(a:N[i]?=some x)(b:N[j]?=some x):i=j:=by
 obtain⟨h1,e1⟩:=XZ.mp a;obtain⟨h2,e2⟩:=XZ.mp b;exact(List.getElem_inj hN).mp (e1.trans e2.symm)
def Dr{E:ZJ}{x:Str}{Q:Unit->Shared->Prop}(I:Inv X pins σ H s)(hN:X.N.Nodup)(hi:X.N[i]?=some x)(hx:Loc X.env.scope x)(r:RelV v u)
  (h:∀s',Inv X pins (σ.set i (some v)) H s'->(∃a,Heap.SameBut a s.heap s'.heap/\(a=X.env.locals\/X.env.cells.lookup x=some a))->Q () s') (hf:X.fn x=true\/X.env.scope.names.lookup x=some .local:=by first|exact .inl rfl|exact .inr rfl|assumption):wpAny M A (storeName X.env x u) Q E s:=by
 obtain⟨m,hn,hl⟩:=id I.loc;have hcls:(X.env.scope.kind==.class||(X.env.scope.kind==.module&&X.env.locals != X.env.globals))=false:=by rw[I.ok.kind];rfl
 have Ds:i<σ.length:=by rw[I.len];exact(XZ.mp hi).1
 have m6:=I.m6;have tracked:∀ {a:Addr} {h':Heap},(∃o,s.heap.get? a=some o/\H a=none)->Heap.SameBut a s.heap h'->bY X.prog X.w H h':=λ{a h'} ha hs b ob e=>by
  obtain⟨_,_,hfree⟩:=ha;refine(I.aJ b ob e).gQ (λc w' hc q=>(hs.2 c ?_).trans q) (λ_ q=>q) λ_ _ q=>q;rintro rfl;rcases hc with rfl|hc
  .rw[hfree]at e;cases e
  .rw[hfree]at hc;cases hc
 rcases hx with hk|hk
 .refine wpAny_storeName_local hk hn (λh' hn' hs=>?_) hcls;obtain⟨oL,_,_,hoL,_⟩:=id hn;refine h _ #[I.ok,I.os,I.bare,#[λb o e n hb hx=>?_,λb o e n hb hx=>?_,I.base.free,λb o e hx=>?_,I.base.di,I.base.iD,I.base.iE],#[_,hn',λj y v' e1 e2 e3=>?_],λy c e=>?_,I.free,I.fC,λp hp=>?_,tracked #[oL,hoL,I.free] hs,by simpa using I.len] #[_,hs,.inl rfl]
  .exact(hs.2 b (Yj (Yf (Heap.lt_size e) I.ok.above))).trans (I.base.keep b o e n hb hx)
  .obtain⟨sl,e1⟩:=I.base.slot b o e n hb hx;exact#[sl,(hs.2 b (Yj (Yf (Heap.lt_size e) I.ok.above))).trans e1]
  .obtain⟨o',e1⟩:=I.base.there b o e hx;exact#[o',(hs.2 b (Yj (Yf (Heap.lt_size e) I.ok.above))).trans e1]
  .by_cases hj:j=i
   .subst hj;rw[hi]at e1;cases e1;rw[Zm Ds]at e2;cases e2;exact#[u,r,.inl #[hk,by simp]]
   .rw[Zf (Ne.symm hj)]at e2;obtain⟨u',r',q⟩:=hl j y v' e1 e2 e3;refine#[u',r',?_];rcases q with⟨k,e⟩|⟨k,c,e,z⟩
    .refine .inl #[k,?_];have:y≠x:=λe=>hj (xX hN e1 (e▸hi));simp[this,e]
    .exact .inr #[k,c,e,z.sameBut hs (m6 y c e)]
  .obtain⟨w',z⟩:=I.cell y c e;exact#[w',z.sameBut hs (m6 y c e)]
  .obtain⟨e,n,ne,nf,d⟩:=I.pin p hp;exact#[(hs.2 p.1 ne).trans e,n,ne,nf,d]
 .have hfn:X.fn x=true:=by
   rcases hf with z|z
   .exact z
   .rw[z]at hk;cases hk
  obtain⟨c,hc⟩:=I.ok.has x (.inl hk);obtain⟨w',z⟩:=I.cell x c hc;refine wpAny_storeName_cell I.ok.kind hk hc z (λh' hc' hs=>?_);obtain⟨oc,hoc,Lh⟩:=id z;refine h {s with heap:=h'} #[I.ok,I.os,I.bare,#[λb o e n hb hx=>?_,λb o e n hb hx=>?_,I.base.free,λb o e hx=>?_,I.base.di,I.base.iD,I.base.iE],#[m,hn.sameBut hs (Ne.symm (m6 x c hc)),λj y v' e1 e2 e3=>?_],λy c' e=>?_,I.free,I.fC,λp hp=>?_,tracked #[oc,hoc,I.fC x c hc] hs,by simpa using I.len] #[c,hs,.inr hc]
  .exact(hs.2 b (Yj (Yf (Heap.lt_size e) (I.ok.rj x c hfn hc)))).trans (I.base.keep b o e n hb hx)
  .obtain⟨sl,e1⟩:=I.base.slot b o e n hb hx;exact#[sl,(hs.2 b (Yj (Yf (Heap.lt_size e) (I.ok.rj x c hfn hc)))).trans e1]
  .obtain⟨o',e1⟩:=I.base.there b o e hx;exact#[o',(hs.2 b (Yj (Yf (Heap.lt_size e) (I.ok.rj x c hfn hc)))).trans e1]
  .by_cases hj:j=i
   .subst hj;rw[hi]at e1;cases e1;rw[Zm Ds]at e2;cases e2;exact#[u,r,.inr #[.inl hk,c,hc,hc']]
   .rw[Zf (Ne.symm hj)]at e2;obtain⟨u',r',q⟩:=hl j y v' e1 e2 e3;refine#[u',r',?_];rcases q with q|⟨k,c',e,z'⟩
    .exact .inl q
    .refine .inr #[k,c',e,z'.sameBut hs ?_];rintro rfl;exact hj (xX hN e1 (I.ok.inj _ _ _ e hc▸hi))
  .by_cases hcc:c'=c
   .subst hcc;exact#[_,hc']
   .obtain⟨w2,z2⟩:=I.cell y c' e;exact#[w2,z2.sameBut hs hcc]
  .obtain⟨e,n,ne,nf,d⟩:=I.pin p hp;refine#[(hs.2 p.1 ?_).trans e,n,ne,nf,d];intro q;rw[q,hoc]at e;have q':oc=p.2:=XW e;exact d w' (by rw[<-q'];exact Lh)
def Dt{E:ZJ}{x:Str}{Q:Unit->Shared->Prop}(I:Inv X pins σ H s)(hN:X.N.Nodup)(hi:X.N[i]?=some x)(hx:Loc X.env.scope x)(r:RelV v u)
  (h:∀s',Inv X pins (σ.set i (some v)) H s'->Q () s') (hf:X.fn x=true\/X.env.scope.names.lookup x=some .local:=by first|exact .inl rfl|exact .inr rfl|assumption):wpAny M A (storeName X.env x u) Q E s:=
 Dr I hN hi hx r (λs' I' _=>h s' I') hf
def Inv.Li(I:Inv X pins σ H s)(ho:s'.os=s.os)(u:Un (i9 X.stack) ch H H' s.heap s'.heap)(aJ:bY X.prog X.w H' s'.heap)(hg:AllBare s'.gens)
  (hch:∀b∈ch,(b∈X.ex\/X.dm.heap.objs.size<=b)/\b≠X.env.locals/\(∀x c,X.env.cells.lookup x=some c->c≠b)/\∀p∈X.pn++pins,p.1≠b):Inv X pins σ H' s':=by
 obtain⟨h',g',d',t',o'⟩:=s';have e:o'=s.os:=ho;subst e;exact I.call (g':=g') (t':=t') (d':=d') u aJ hg hch
end
abbrev XK:=Value->Option Addr->Hp->Prop
abbrev St:=List (Option V)
abbrev VK:=V->Hp->Prop
abbrev TE:=St->Hp->VK->Prop
abbrev TT:=St->Hp->(Bool->Hp->Prop)->Prop
abbrev TA:=St->Hp->(List V->Hp->Prop)->Prop
structure Ends where
 nx:St->Hp->Prop
 rt:VK
 bk:St->Hp->Prop:=λ_ _=>False
 ct:St->Hp->Prop:=λ_ _=>False
abbrev TS:=Ends->St->Hp->Prop
inductive EP(X:Cx)(pins:ZZ)(σ:St)(Q:VK)(u:Value)(s':Shared):Prop|mk(v H':_)(_:Inv X pins σ H' s')(_:RelV v u)(_:Q v H')
def TP(X:Cx)(pins:ZZ)(σ:St)(Q:Bool->Hp->Prop)(b:Bool)(s':Shared):Prop:=∃H',Inv X pins σ H' s'/\Q b H'
inductive AP(X:Cx)(pins:ZZ)(σ:St)(Q:List V->Hp->Prop)(us:List Value)(s':Shared):Prop|mk(vs H':_)(_:Inv X pins σ H' s')(_:Vals vs us)(_:Q vs H')
def SP(X:Cx)(pins:ZZ)(D:Ends)(f:Flow)(s':Shared):Prop:=
 match f with
 |.next=>aX λσ' H'=>Inv X pins σ' H' s'/\D.nx σ' H'
 |.brk=>aX λσ' H'=>Inv X pins σ' H' s'/\D.bk σ' H'
 |.cont=>aX λσ' H'=>Inv X pins σ' H' s'/\D.ct σ' H'
 |.ret u=>c8 λv σ' H'=>Inv X pins σ' H' s'/\RelV v u/\D.rt v H'
def PE(X:Cx)(e:Expr)(t:TE):Prop:=
 ∀(pins:ZZ) (s:Shared) (σ:St) (H:Hp) (Q:VK),Inv X pins σ H s->t σ H Q->wpAny (model X.prog X.w) X.A (eval e X.env) (EP X pins σ Q) X.xe s
def PT(X:Cx)(e:Expr)(t:TT):Prop:=
 ∀(pins:ZZ) (s:Shared) (σ:St) (H:Hp) (Q:Bool->Hp->Prop),Inv X pins σ H s->t σ H Q->wpAny (model X.prog X.w) X.A (isTrue e X.env (eval e X.env)) (TP X pins σ Q) X.xe s
def PW(X:Cx)(e:Expr)(t:TT):Prop:=
 ∀(whole:Sem Value) (pins:ZZ) (s:Shared) (σ:St) (H:Hp) (Q:Bool->Hp->Prop),Inv X pins σ H s->t σ H Q->wpAny (model X.prog X.w) X.A (isTrue e X.env whole) (TP X pins σ Q) X.xe s
def PW.pt{t:TT}(h:PW X e t):PT X e t:=h _
def PA(X:Cx)(es:List Expr)(t:TA):Prop:=
 ∀(pos:Pos) (pins:ZZ) (s:Shared) (σ:St) (H:Hp) (Q:List V->Hp->Prop),Inv X pins σ H s->t σ H Q->wpAny (model X.prog X.w) X.A (spliced (backTo pos (starEach es X.env))) (AP X pins σ Q) X.xe s
def PS(X:Cx)(st:Stmt)(t:TS):Prop:=
 ∀(pins:ZZ) (s:Shared) (σ:St) (H:Hp) (D:Ends),Inv X pins σ H s->t D σ H->wpAny (model X.prog X.w) X.A (exec st X.env) (SP X pins D) X.xe s
def dJ(X:Cx)(st:List Stmt)(t:TS):Prop:=
 ∀(pins:ZZ) (s:Shared) (σ:St) (H:Hp) (D:Ends),Inv X pins σ H s->t D σ H->wpAny (model X.prog X.w) X.A (execs st X.env) (SP X pins D) X.xe s
def aN{α:Type}{t:Sem α}{Q Q':α->Shared->Prop}{E:ZJ}(h:wpAny M A t Q E s)(hQ:∀a s,Q a s->Q' a s):wpAny M A t Q' E s:=wpAny_mono h hQ λ_ _ x=>x
section
inductive lX(i:Nat)(σ:St)(H:Hp)(Q:VK):Prop|mk(v:_)(_:σ[i]?=some (some v))(_:Q v H)
def tC(v:V):TE:=λ_ H Q=>Q v H
def Lj{x:Str}(hN:X.N[i]?=some x)(hv:m5 X.env.scope x)(hd:(x==("__debug__":Str))=false:=by decide)(hcd:(x==("__classdict__":Str))=false:=by decide):PE X (.Name x pos) (lX i):=by
 intro pins s σ H Q I h;obtain⟨v,e,h⟩:=h;obtain⟨m,hn,hl⟩:=I.loc;obtain⟨u,r,l⟩:=hl i x v hN e hv;have fin:EP X pins σ Q u s:=#[v,H,I,r,h]
 rcases l with⟨hk,hm⟩|⟨hk,c,hc,hcell⟩
 .exact wpAny_Name (wpAny_loadName_local I.ok.kind hk hn hm fin) hd
 .rcases hk with hk|hk
  .exact wpAny_Name (wpAny_loadName_cell I.ok.kind hk hc hcell fin) hd
  .exact wpAny_Name (wpAny_loadName_free I.ok.kind hk hc hcell fin hcd) hd
def aw{i j pos}:PE X (.Constant (.int i) j pos) (tC (.int i)):=λ_ _ _ H _ I h=>wpAny_Constant_int #[.int i,H,I.tok _,#[_,rfl],h]
def kE{b j pos}:PE X (.Constant (.bool b) j pos) (tC (.bl b)):=λ_ _ _ H _ I h=>Constant_bool #[.bl b,H,I,rfl,h]
def b_{j pos}:PE X (.Constant .none j pos) (tC .ay):=λ_ _ _ H _ I h=>Constant_none #[.ay,H,I,rfl,h]
def i_{x j pos}:PE X (.Constant (.str x) j pos) (tC (.str x)):=λ_ _ _ H _ I h=>Calls.Constant_str #[.str x,H,I.tok _,#[_,rfl],h]
def Gl(X:Cx)(x:Str):Prop:=X.env.kindOf x=some .globalImplicit
def rm{E:ZJ}{x:Str}{Q:ZJ}(I:Inv X pins σ H s)(hg:Gl X x)(hm:X.mg x=some u)(h:Q u s)
  (hd:(x==("__debug__":Str))=false:=by decide):wpAny (model X.prog X.w) X.A (eval (.Name x pos) X.env) Q E s:=
 Calls.Name_function_global I.ok.kind hg (Calls.loadGlobal_global (by rw[I.ok.glob];exact I.mod.glob.keeps I.bk) hm h) hd
def ja{E:ZJ}{x:Str}{Q:ZJ}(I:Inv X pins σ H s)(hg:Gl X x)(hm:X.mg x=none)(hv:bootBuiltins x=some u)(h:Q u s)
  (hn:x≠"__name__":=by decide) (hd:(x==("__debug__":Str))=false:=by decide):wpAny (model X.prog X.w) X.A (eval (.Name x pos) X.env) Q E s:=by
 obtain⟨mb,h1,h2⟩:=I.mod.blt;exact Calls.Name_function_global I.ok.kind hg (Calls.loadGlobal_builtin (by rw[I.ok.glob];exact I.mod.glob.keeps I.bk) hm (by rw[I.ok.blt];exact h1.keeps I.bk) ((h2 x hn).trans hv) h) hd
def Du{x:Str}(hg:Gl X x)(hm:X.mg x=some u)(r:RelV v u)(hd:(x==("__debug__":Str))=false:=by decide):PE X (.Name x pos) (tC v):=
 λ_ _ _ H _ I h=>rm I hg hm #[v,H,I,r,h] hd
variable{a b:Expr}{tb:TE}
def PC(X:Cx)(op:CmpOp)(a b:Expr)(t:TE):Prop:=
 ∀(pins:ZZ) (s:Shared) (σ:St) (H:Hp) (Q:VK),Inv X pins σ H s->t σ H Q->
  wpAny (model X.prog X.w) X.A (eval a X.env) (λv s₁=>wpAny (model X.prog X.w) X.A (eval b X.env) (λu s₂=>wpAny (model X.prog X.w) X.A (compareOp op v u) (EP X pins σ Q) X.xe s₂) X.xe s₁) X.xe s
inductive Lk(Q:Bool->Hp->Prop)(x:V)(H1:Hp):Prop|mk(c:_)(_:x=.bl c)(_:Q c H1)
def tB(t:TE):TT:=λσ H Q=>t σ H λx H1=>Lk Q x H1
def xY{op:CmpOp}{t:TE}(h:PC X op a b t)(h1:behindInMarks op b=false:=by first|exact Xc _ (by decide) (by decide)|rfl):PT X (.Compare a [op] [b] pos) (tB t):=by
 intro pins s σ H Q I hw;refine wpAny_isTrue_Compare1 (aN (h pins s σ H _ I hw) λv s1 h1=>aN h1 λu s2 h2=>aN h2 λc s3 ⟨x,H1,I1,r1,q1⟩=>?_) h1;obtain⟨d,rfl,q⟩:=q1;cases r1;exact wpAny_truthy_bool #[H1,I1,q]
variable{tA uF:TT}{rest:List Expr}
def Dx(t u:TT):TT:=λσ H Q=>t σ H λc H1=>if c=true then u σ H1 Q else Q false H1
def Ll(t u:TT):TT:=λσ H Q=>t σ H λc H1=>if c=true then Q true H1 else u σ H1 Q
def Lm(t:TT):TT:=λσ H Q=>t σ H λc H1=>Q (!c) H1
def rn(ha:PT X a tA):PW X (.BoolOp .And [a] pos) tA:=by
 intro wh pins s σ H Q I h;refine isTrue_and (aN (ha pins s σ H Q I h) λc s1 e=>?_);cases c with|true=>exact isTrue_and_nil e|false=>exact e
def o4(ha:PT X a tA):PW X (.BoolOp .Or [a] pos) tA:=by
 intro wh pins s σ H Q I h;refine isTrue_or (aN (ha pins s σ H Q I h) λc s1 e=>?_);cases c with|false=>exact isTrue_or_nil e|true=>exact e
def rp(ha:PT X a tA)(hb:PW X (.BoolOp .And (b::rest) pos) uF):PW X (.BoolOp .And (a::b::rest) pos) (Dx tA uF):=by
 intro wh pins s σ H Q I h;refine isTrue_and (aN (ha pins s σ H _ I h) λc s1 ⟨H1,I1,q1⟩=>?_);cases c with|true=>exact hb wh pins s1 σ H1 Q I1 q1|false=>exact#[H1,I1,q1]
def m7(ha:PT X a tA)(hb:PW X (.BoolOp .Or (b::rest) pos) uF):PW X (.BoolOp .Or (a::b::rest) pos) (Ll tA uF):=by
 intro wh pins s σ H Q I h;refine isTrue_or (aN (ha pins s σ H _ I h) λc s1 ⟨H1,I1,q1⟩=>?_);cases c with|true=>exact#[H1,I1,q1]|false=>exact hb wh pins s1 σ H1 Q I1 q1
def iG(ha:PT X a tA):PT X (.UnaryOp .Not a pos) (Lm tA):=by
 intro pins s σ H Q I h;exact isTrue_not (ha pins s σ H (λc H1=>Q (!c) H1) I h)
inductive Ln(tb:TE)(σ:St)(Q:VK)(x:V)(H1:Hp):Prop|mk(c:_)(_:x=.bl c)(_:if c=true then tb σ H1 Q else Q (.bl false) H1)
def Lo(ta tb:TE):TE:=λσ H Q=>ta σ H λx H1=>Ln tb σ Q x H1
def Dy{op}{t:TE}(h:PE X a t):PE X (.BoolOp op [a] pos) t:=λpins s σ H Q I hw=>BoolOp_one (h pins s σ H Q I hw)
def xZ(ha:PE X a ta)(hb:PE X (.BoolOp .And (b::rest) pos) tb):PE X (.BoolOp .And (a::b::rest) pos) (Lo ta tb):=by
 intro pins s σ H Q I h;refine BoolOp_and (aN (ha pins s σ H _ I h) λv s1 ⟨x,H1,I1,r1,q1⟩=>?_);obtain⟨c,rfl,q1⟩:=q1;cases r1;refine wpAny_truthy_bool ?_;cases c with|true=>exact hb pins s1 σ H1 Q I1 q1|false=>exact#[.bl false,H1,I1,rfl,q1]
def Lq(t:TT)(ta tb:TE):TE:=λσ H Q=>t σ H λc H1=>if c=true then ta σ H1 Q else tb σ H1 Q
def Lr(hc:PT X c tA)(ha:PE X a ta)(hb:PE X b tb):PE X (.IfExp c a b pos) (Lq tA ta tb):=by
 intro pins s σ H Q I h;refine wpAny_IfExp (aN (hc pins s σ H _ I h) λd s1 ⟨H1,I1,q1⟩=>?_);cases d with|true=>exact ha pins s1 σ H1 Q I1 q1|false=>exact hb pins s1 σ H1 Q I1 q1
end
def af(K:ZX)(H:Hp)(a:Addr)(xs:List V):Prop:=
 Rd H a (.lst xs)\/
  c8 λ(o:Obj) (its:Array Value) (n:Nat)=>K.lookup a=some o/\o.cls=.type "list"/\o.dict=none/\o.data=.seq its n/\its.size<=sizeLine/\Vals xs its.toList
def aI(K:ZX)(H:Hp)(a:Addr)(xs:List V):Prop:=
 Rd H a (.tup xs)\/
  c8 λ(o:Obj) (its:Array Value) (n:Nat)=>K.lookup a=some o/\o.cls=.type "tuple"/\o.data=.seq its n/\its.size<=sizeLine/\Vals xs its.toList
noncomputable def Ls:Value->Option V
 |.none=>some .ay
 |.bool b=>some (.bl b)
 |.int i _=>some (.int i)
 |.str x _=>some (.str x)
 |.bytes b _=>some (.d6 b)
 |.float b _=>some (.flt b)
 |.ref a=>some (.ref a)
 |.type n=>some (.ty n)
 |_=>none
def RelV.abs{x:V}(r:RelV x u):Ls u=some x:=by
 cases x with|ay=>cases r;rfl|bl _=>cases r;rfl|int _=>obtain⟨t,rfl⟩:=r;rfl|str _=>obtain⟨t,rfl⟩:=r;rfl|d6 _=>obtain⟨t,rfl⟩:=r;rfl|flt _=>obtain⟨t,rfl⟩:=r;rfl|ref _=>cases r;rfl|ty _=>cases r;rfl
theorem RelV.inj{x:V}(r:RelV x u)(q:RelV y u):x=y:=XW (r.abs.symm.trans q.abs)
theorem Vals.inj:∀ {xs ys:List V} {us:List Value},Vals xs us->Vals ys us->xs=ys
 |_,_,_,.nil,.nil=>rfl
 |_,_,_,.cons r t,.cons r' t'=>by rw[r.inj r',Vals.inj t t']
section
variable{ys:List V}
def af.of(h:H a=some (.lst xs)):af K H a xs:=.inl (.inl h)
def aI.of(h:H a=some (.tup xs)):aI K H a xs:=.inl (.inl h)
theorem Inv.list(I:Inv X pins σ H s)(h:af X.K H a xs):∃its:List Value,Vals xs its/\PlainL s.heap a its.toArray/\xs.length<=sizeLine:=by
 rcases h with h|⟨o,its,n,hk,hc,hd,hs,hz,r⟩
 .obtain⟨z,its,n,r,e⟩:=h.ok I.aJ;exact#[its,r,#[_,n,e,rfl,rfl,rfl],z]
 .refine#[its.toList,r,#[o,n,I.e8 a o hk,hc,hd,by simpa using hs],?_];have e:=r.length;simp only[Zk]at e
  lia
theorem Inv.tuple(I:Inv X pins σ H s)(h:aI X.K H a xs):∃its:List Value,Vals xs its/\IsTup s.heap a its.toArray/\xs.length<=sizeLine:=by
 rcases h with h|⟨o,its,n,hk,hc,hs,hz,r⟩
 .obtain⟨z,its,r,p⟩:=h.ok I.aJ;exact#[its,r,p,z]
 .refine#[its.toList,r,#[o,I.e8 a o hk,hc,n,by simpa using hs],?_];have e:=r.length;simp only[Zk]at e
  lia
def Inv.o5(I:Inv X pins σ H s)(h:af X.K H a xs)(h':af X.K H a ys):xs=ys:=by
 obtain⟨its,r,⟨o,n,e,_,_,d⟩,_⟩:=I.list h;obtain⟨its',r',⟨o',n',e',_,_,d'⟩,_⟩:=I.list h';rw[e]at e';cases e';rw[d]at d';injection d' with d1 _;have:its=its':=by simpa using congrArg Array.toList d1
 subst this;exact r.inj r'
def Inv.Lu(I:Inv X pins σ H s)(h:aI X.K H a xs)(h':aI X.K H a ys):xs=ys:=by
 obtain⟨its,r,⟨o,e,_,n,d⟩,_⟩:=I.tuple h;obtain⟨its',r',⟨o',e',_,n',d'⟩,_⟩:=I.tuple h';rw[e]at e';cases e';rw[d]at d';injection d' with d1 _;have:its=its':=by simpa using congrArg Array.toList d1
 subst this;exact r.inj r'
end
abbrev Cx.jI(X:Cx)(E:ZJ):Cx:={X with xe:=E}
abbrev Cx.jJ(X:Cx):Cx:=X.jI λ_ _=>False
theorem Cx.Ok.jI(ok:X.Ok)(E:ZJ):(X.jI E).Ok:=
 #[ok.mod,ok.kind,ok.glob,ok.blt,ok.above,ok.inj,ok.has,ok.rj,ok.hd,ok.frames,ok.fB,ok.uC,ok.bs,ok.iF,ok.rk,ok.oZ,ok.gR,ok.lV]
def Cx.Ok.lY{E:ZJ}(ok:(X.jI E).Ok):X.Ok:=
 #[ok.mod,ok.kind,ok.glob,ok.blt,ok.above,ok.inj,ok.has,ok.rj,ok.hd,ok.frames,ok.fB,ok.uC,ok.bs,ok.iF,ok.rk,ok.oZ,ok.gR,ok.lV]
section
variable{E:ZJ}
theorem Inv.jI(I:Inv X pins σ H s)(E:ZJ):Inv (X.jI E) pins σ H s:=#[I.ok.jI E,I.os,I.bare,I.base,I.loc,I.cell,I.free,I.fC,I.pin,I.aJ,I.len]
theorem Inv.lY(I:Inv (X.jI E) pins σ H s):Inv X pins σ H s:=#[I.ok.lY,I.os,I.bare,I.base,I.loc,I.cell,I.free,I.fC,I.pin,I.aJ,I.len]
theorem SP.lY{f:Flow}(h:SP (X.jI E) pins D f s'):SP X pins D f s':=by
 cases f with|next=>obtain⟨σ',H',I,q⟩:=h;exact#[σ',H',I.lY,q]|brk=>obtain⟨σ',H',I,q⟩:=h;exact#[σ',H',I.lY,q]|cont=>obtain⟨σ',H',I,q⟩:=h;exact#[σ',H',I.lY,q]|ret u=>obtain⟨v,σ',H',I,r,q⟩:=h;exact#[v,σ',H',I.lY,r,q]
theorem dJ.jJ{st:List Stmt}{t:TS}(h:dJ X.jJ st t):dJ X st t:=λpins s σ H D I hw=>
 wpAny_mono (h pins s σ H D (I.jI _) hw) (λ_ _ q=>q.lY) λ_ _ z=>False.elim z
end
section
variable{st:Stmt}{rest:List Stmt}{t u:TS}
def Dz:TS:=λD σ H=>D.nx σ H
def DA(t u:TS):TS:=λD σ H=>t {D with nx:=u D} σ H
def jK:dJ X [] Dz:=λ_ _ σ H _ I h=>wpAny_execs_nil #[σ,H,I,h]
def aC(h1:PS X st t)(h2:dJ X rest u):dJ X (st::rest) (DA t u):=by
 intro pins s σ H D I h;refine wpAny_execs_cons (aN (h1 pins s σ H {D with nx:=u D} I h) λf s1 q=>?_);cases f with
 |next=>
  obtain⟨σ',H',I',q⟩:=q;exact h2 pins s1 σ' H' D I' q
 |ret v=>exact q
 |brk=>exact q
 |cont=>exact q
def bF(h1:PS X st t):dJ X [st] t:=by
 intro pins s σ H D I h;refine wpAny_execs_cons (aN (h1 pins s σ H D I h) λf s1 q=>?_);cases f with|next=>exact wpAny_execs_nil q|ret v=>exact q|brk=>exact q|cont=>exact q
def Inv.quiet(I:Inv X pins σ H s):interactive X.env=false:=by simp[interactive,I.ok.kind]
def Lv(te:TE):TS:=λD σ H=>te σ H λ_ H1=>D.nx σ H1
def cK(he:PE X e te)(hs:swapsWith e none pos.line X.env=pure false:=by rfl):PS X (.Expr e pos) (Lv te):=by
 intro pins s σ H D I h;exact wpAny_Expr_any (aN (he pins s σ H _ I h) λv s1 ⟨x,H1,I1,r1,q1⟩=>#[σ,H1,I1,q1]) I.quiet hs
def uH(te:TE):TS:=λD σ H=>te σ H D.rt
def Lw(he:PE X e te):PS X (.Return (some e) pos) (uH te):=by
 intro pins s σ H D I h;exact wpAny_Return_some (aN (he pins s σ H _ I h) λv s1 ⟨x,H1,I1,r1,q1⟩=>#[x,σ,H1,I1,r1,q1])
def DB(c:TT)(t u:TS):TS:=λD σ H=>c σ H λb H1=>if b=true then t D σ H1 else u D σ H1
def gS{a b:List Stmt}(hc:PT X c tc)(ha:dJ X a t)(hb:dJ X b u):PS X (.If c a b pos) (DB tc t u):=by
 intro pins s σ H D I h;refine wpAny_If (aN (hc pins s σ H _ I h) λd s1 ⟨H1,I1,q1⟩=>?_);cases d with|true=>exact ha pins s1 σ H1 D I1 q1|false=>exact hb pins s1 σ H1 D I1 q1
end
abbrev TG:=V->St->Hp->(St->Hp->Prop)->Prop
abbrev m8:=List V->St->Hp->(St->Hp->Prop)->Prop
def PG(X:Cx)(target:Expr)(t:TG):Prop:=
 ∀(pins:ZZ) (s:Shared) (σ:St) (H:Hp) (v:V) (u:Value) (Q:St->Hp->Prop),Inv X pins σ H s->RelV v u->t v σ H Q->
  wpAny (model X.prog X.w) X.A (assign target X.env u) (λ_ s'=>aX λσ' H'=>Inv X pins σ' H' s'/\Q σ' H') X.xe s
def rq(X:Cx)(ts:List Expr)(t:m8):Prop:=
 ∀(pins:ZZ) (s:Shared) (σ:St) (H:Hp) (vs:List V) (us:List Value) (Q:St->Hp->Prop),Inv X pins σ H s->Vals vs us->t vs σ H Q->
  wpAny (model X.prog X.w) X.A (assignInOrder ((assignEach ts X.env).map (·.2)) us) (λ_ s'=>aX λσ' H'=>Inv X pins σ' H' s'/\Q σ' H') X.xe s
abbrev rz:=V->V->V->Hp->(Hp->Prop)->Prop
def x6(X:Cx)(t:rz):Prop:=
 ∀(pins:ZZ) (s:Shared) (σ:St) (H:Hp) (o i v:V) (ov iv u:Value) (Q:Hp->Prop),Inv X pins σ H s->RelV o ov->RelV i iv->RelV v u->t o i v H Q->
  wpAny (model X.prog X.w) X.A (setItem ov iv u) (λ_ s'=>∃H',Inv X pins σ H' s'/\Q H') X.xe s
abbrev x8:=V->V->Hp->VK->Prop
def DC(X:Cx)(op:Operator)(t:x8):Prop:=
 ∀(pins:ZZ) (s:Shared) (σ:St) (H:Hp) (x y:V) (v u:Value) (Q:VK),Inv X pins σ H s->RelV x v->RelV y u->t x y H Q->
  wpAny (model X.prog X.w) X.A (inplaceOp op v u) (EP X pins σ Q) X.xe s
def m9(i:Nat):TG:=λv σ H Q=>Q (σ.set i (some v)) H
def DD{x:Str}(hN:X.N.Nodup)(hi:X.N[i]?=some x)(hx:Loc X.env.scope x)(hf:X.fn x=true\/X.env.scope.names.lookup x=some .local:=by first|exact .inl rfl|exact .inr rfl|assumption):PG X (.Name x pos) (m9 i):=by
 intro pins s σ H v u Q I r h;exact wpAny_assign_Name (Dt I hN hi hx r (λs' I'=>#[_,H,I',h]) hf)
def Lx:m8:=λvs σ H Q=>vs=[]/\Q σ H
inductive Ly(t:TG)(u:m8)(vs:List V)(σ:St)(H:Hp)(Q:St->Hp->Prop):Prop|mk(v r:_)(_:vs=v::r)(_:t v σ H λσ' H'=>u r σ' H' Q)
def m_:rq X [] Lx:=by
 intro pins s σ H vs us Q I r h;obtain⟨e,h⟩:=h;subst e;cases r;exact assignInOrder_nil #[σ,H,I,h]
def gj{t:TG}{u:m8}(h1:PG X e t)(h2:rq X es u)
  (hs:(assignEach (e::es) X.env).map (·.2)=assign e X.env::(assignEach es X.env).map (·.2):=by rfl):rq X (e::es) (Ly t u):=by
 intro pins s σ H vs us Q I r h;obtain⟨v,vr,e1,h⟩:=h;subst e1;cases r with|cons r rr=>
  rw[hs];refine assignInOrder_cons (aN (h1 pins s σ H _ _ _ I r h) λ_ s1 ⟨σ1,H1,I1,q1⟩=>?_);exact h2 pins s1 σ1 H1 _ _ Q I1 rr q1
inductive DE(K:ZX)(n:Nat)(t:m8)(v:V)(σ:St)(H:Hp)(Q:St->Hp->Prop):Prop|mk(a xs:_)(_:v=.ref a)(_:aI K H a xs)(_:xs.length=n)(_:t xs σ H Q)
def uI{t:m8}(hc:X.calm=true)(h:rq X es t)
  (hn:(assignEach es X.env).length=n:=by rfl) (hst:(assignEach es X.env).findIdx? (·.1)=none:=by rfl):PG X (.Tuple es k pos) (DE X.K n t):=by
 intro pins s σ H v u Q I r hw;obtain⟨a,xs,e1,hq,hl,hw⟩:=hw;subst e1;cases r;obtain⟨its,rv,ht,hz⟩:=I.tuple hq;refine assign_Tuple_tuple (I.ok.hd hc) ht (by simp[hn,<-hl,rv.length]) hst λh' hx=>?_;have I1:Inv X pins σ H {s with heap:=h'}:=I.kept (t':=s.toks) λb o e=>hx b o (Yj (Heap.lt_size e)) e;exact h pins _ σ H xs _ Q I1 (by simpa using rv) hw
def Lz(to ti:TE)(t:rz):TG:=λv σ H Q=>to σ H λo H1=>ti σ H1 λi H2=>t o i v H2 λH3=>Q σ H3
def o6{o i:Expr}{to:TE}{t:rz}(ho:PE X o to)(hi:PE X i ti)(hs:x6 X t)
  (ha:∀v,assign (.Subscript o i pos) X.env v=(do
   let ov<-holding [v] (eval o X.env);let iv<-holding [v,ov] (eval i X.env)
   standAt pos
   holding [v,ov,iv] (setItem ov iv v)
   release [v,ov,iv] []):=by intro _;rfl):PG X (.Subscript o i pos) (Lz to ti t):=by
 intro pins s σ H v u Q I r h;rw[ha];refine wpAny_bind (wpAny_holding (aN (ho pins s σ H _ I h) λov s1 ⟨x,H1,I1,r1,q1⟩=>?_));refine wpAny_bind (wpAny_holding (aN (hi pins s1 σ H1 _ I1 q1) λiv s2 ⟨y,H2,I2,r2,q2⟩=>?_));refine wpAny_bind (wpAny_standAt (wpAny_bind (wpAny_holding (aN (hs pins s2 σ H2 x y v ov iv u _ I2 r1 r2 r q2) λ_ s3 ⟨H3,I3,q3⟩=>?_))));exact wpAny_release #[σ,H3,I3,q3]
def uJ(te:TE)(g:TG):TS:=λD σ H=>te σ H λx H1=>g x σ H1 D.nx
def o7(he:PE X e te)(hg:PG X tg g)(hs:swapsWithSole [tg] e pos.line X.env=pure false:=by rfl)(hw:swappedStores [tg] e X.env=pure none:=by rfl)
  (h1:(assignEach [tg] X.env).map (·.2)=[assign tg X.env]:=by rfl):PS X (.Assign [tg] e pos) (uJ te g):=by
 intro pins s σ H D I h;refine wpAny_Assign_stores (aN (he pins s σ H _ I h) λv s1 ⟨x,H1,I1,r1,q1⟩=>?_) hs hw;rw[h1];exact aN (hg pins s1 σ H1 x v _ I1 r1 q1) λ_ s2 q=>q
def x9{x:Str}(hN:X.N.Nodup)(hi:X.N[i]?=some x)(hx:Loc X.env.scope x)(he:PE X e te)(hs:swapsWith e (some (.Name x pos')) pos.line X.env=pure false:=by rfl)(hf:X.fn x=true\/X.env.scope.names.lookup x=some .local:=by first|exact .inl rfl|exact .inr rfl|assumption):
  PS X (.Assign [.Name x pos'] e pos) (uJ te (m9 i)):=by
 intro pins s σ H D I h;refine wpAny_Assign_Name (aN (he pins s σ H _ I h) λv s1 ⟨y,H1,I1,r1,q1⟩=>?_) hs;exact Dt I1 hN hi hx r1 (λs2 I2=>#[_,H1,I2,q1]) hf
def DF(to ti te:TE)(uK:V->V->Hp->VK->Prop)(uL:x8)(uM:rz):TS:=λD σ H=>to σ H λo H1=>ti σ H1 λi H2=>uK o i H2 λx H3=>te σ H3 λy H4=>uL x y H4 λz H5=>uM o i z H5 λH6=>D.nx σ H6
def DG(X:Cx)(t:V->V->Hp->VK->Prop):Prop:=
 ∀(pins:ZZ) (s:Shared) (σ:St) (H:Hp) (o i:V) (ov iv:Value) (Q:VK),Inv X pins σ H s->RelV o ov->RelV i iv->t o i H Q->
  wpAny (model X.prog X.w) X.A (getItem ov iv) (EP X pins σ Q) X.xe s
def LA{o i:Expr}{to:TE}{uK:V->V->Hp->VK->Prop}{uL:x8}{uM:rz}{op:Operator}(ho:PE X o to)(hi:PE X i ti)(hg:DG X uK)(he:PE X e te)(hp:DC X op uL)(hs:x6 X uM)
  (ha:∀ov iv new,augStore i ov iv new=(do holding [new,ov,iv] (setItem ov iv new);release [new,ov,iv] [];pure .next):=by intros;rfl):PS X (.AugAssign (.Subscript o i tpos) op e pos) (DF to ti te uK uL uM):=by
 intro pins s σ H D I h;refine wpAny_AugAssign_SubscriptAny (aN (ho pins s σ H _ I h) λov s1 ⟨x1,H1,I1,r1,q1⟩=>?_) ha;refine aN (hi pins s1 σ H1 _ I1 q1) λiv s2 ⟨x2,H2,I2,r2,q2⟩=>?_;refine aN (hg pins s2 σ H2 x1 x2 ov iv _ I2 r1 r2 q2) λold s3 ⟨x3,H3,I3,r3,q3⟩=>?_;refine aN (he pins s3 σ H3 _ I3 q3) λv s4 ⟨x4,H4,I4,r4,q4⟩=>?_;refine aN (hp pins s4 σ H4 x3 x4 old v _ I4 r3 r4 q4) λnew s5 ⟨x5,H5,I5,r5,q5⟩=>?_;exact aN (hs pins s5 σ H5 x1 x2 x5 ov iv new _ I5 r1 r2 r5 q5) λ_ s6 ⟨H6,I6,q6⟩=>#[σ,H6,I6,q6]
inductive DH(f:Int->Int->Int)(x:V)(y:V)(H:Hp)(Q:VK):Prop|mk(i j:_)(_:x=.int i)(_:y=.int j)(_:Q (.int (f i j)) H)
def LB:DC X .Add (DH λi j=>i+j):=by
 intro pins s σ H x y v u Q I r1 r2 h;obtain⟨i,j,e1,e2,q⟩:=h;subst e1;subst e2;obtain⟨t,rfl⟩:=r1;obtain⟨t',rfl⟩:=r2;exact iadd_int #[.int _,H,I.tok _,#[_,rfl],q]
inductive DI(c:TT)(tb:TS)(D:Ends)(σ:St)(H:Hp):Prop|mk(W:Nat->St->Hp->Prop)(_:(∃m,W m σ H))(_:∀m σ H,W m σ H->c σ H λb H1=>if b=true then ∃N:St->Hp->Prop,(∀σ' H',N σ' H'->∃m',m'<m/\W m' σ' H')/\tb {D with nx:=N,ct:=N,bk:=D.nx} σ H1 else D.nx σ H1)
def x_(hp:PassesOwn (model X.prog X.w) X.A X.env X.xe)(hc:PT X c tc)(hb:dJ X body tb):PS X (.While c body [] pos) (DI tc tb):=by
 intro pins s σ H D I h;obtain⟨W,⟨m0,w0⟩,turn⟩:=h;refine wpAny_While (codeAny_whileLoop (λn s'=>aX λσ' H'=>Inv X pins σ' H' s'/\W n σ' H') ?_ m0 #[σ,H,I,w0]);rintro n s1 ⟨σ1,H1,I1,w1⟩;refine wpAny_passesOwn hp (aN (hc pins s1 σ1 H1 _ I1 (turn n σ1 H1 w1)) λb s2 ⟨H2,I2,q2⟩=>?_);cases b with
 |true=>
  obtain⟨N,hN,q2⟩:=q2;rw[if_pos rfl];refine wpAny_passesOwn hp (aN (hb pins s2 σ1 H2 _ I2 q2) λf s3 q3=>?_);cases f with
  |next=>
   obtain⟨σ3,H3,I3,n3⟩:=q3;obtain⟨m',hm,w3⟩:=hN σ3 H3 n3;exact#[m',hm,σ3,H3,I3,w3]
  |cont=>
   obtain⟨σ3,H3,I3,n3⟩:=q3;obtain⟨m',hm,w3⟩:=hN σ3 H3 n3;exact#[m',hm,σ3,H3,I3,w3]
  |brk=>exact q3
  |ret v=>exact q3
 |false=>
  rw[if_neg X9];exact wpAny_execs_nil #[σ1,H2,I2,q2]
structure It where
 go:Nat->Hp->Prop
 fD:Nat->Hp->V->Hp->Prop
 stop:Nat->Hp->Prop
def cw(X:Cx)(pins:ZZ)(H:Hp)(b:Addr):Prop:=
 H b=none/\b≠X.env.locals/\b∉X.fs/\(b∈X.ex\/X.dm.heap.objs.size<=b)/\(∀x c,X.env.cells.lookup x=some c->c≠b)/\∀p∈X.pn++pins,p.1≠b
def Inv.iH(I:Inv X pins σ H s)(hb:s.heap.objs.size<=b)(hn:H' b=none):cw X pins H' b:=by
 refine#[hn,Zr (Yf I.lt hb),I.Lg hb,.inr (X8 I.sz hb),λx c e z=>?_,λp hp z=>?_]
 .obtain⟨v,q⟩:=I.cell x c e;exact absurd (Yf q.lt (by rw[z];exact hb)) (YL _)
 .exact absurd (Yf (Heap.lt_size (I.pin p hp).1) (by rw[z];exact hb)) (YL _)
structure Turn(P:Program)(w:World)(K:ZX)(tg:Expr)(J:It)(fp:List Addr)(it:Addr)(tn:Nat->Heap->Prop):Prop where
 mem:it∈fp
 obj:∀i h,tn i h->∀b∈fp,∃o,h.get? b=some o/\∀v,o.data≠.cell v
 keep:∀i h h',tn i h->(∀b∈fp,∀o,h.get? b=some o->h'.get? b=some o)->tn i h'
 item:∀(X:Cx),X.prog=P->X.w=w->X.K=K->X.calm=true->∀(i:Nat) (pins:ZZ) (s:Shared) (σ:St) (H:Hp) (E:ZJ),Inv X pins σ H s->(∀b∈fp,cw X pins H b)->tn i s.heap->J.go i H->
  wpAny (model P w) X.A (pyNext (.ref it)) (λr s1=>∃u,r=some u/\
   wpAny (model P w) X.A (letOwnedTupleGo tg (.ref it) u) (λ_ s2=>aX λx H'=>Inv X pins σ H' s2/\RelV x u/\J.fD i H x H'/\tn (i+1) s2.heap/\∀b∈fp,H' b=none) E s1) E s
 done:∀(X:Cx),X.prog=P->X.w=w->X.K=K->X.calm=true->∀(i:Nat) (pins:ZZ) (s:Shared) (σ:St) (H:Hp) (E:ZJ),Inv X pins σ H s->(∀b∈fp,cw X pins H b)->tn i s.heap->J.stop i H->
  wpAny (model P w) X.A (pyNext (.ref it)) (λr s1=>r=none/\Inv X pins σ H s1) E s
 self:∀(A:Around) (i:Nat) (s:Shared) (Q:ZJ) (E:ZJ),tn i s.heap->Q (.ref it) s->wpAny (model P w) A (pyIter (.ref it)) Q E s
abbrev TI:=St->Hp->(It->Hp->Prop)->Prop
inductive ya(X:Cx)(pins:ZZ)(σ:St)(tg:Expr)(R:It->Hp->Prop)(itv:Value)(s2:Shared):Prop|mk(it:Addr)(fp:List Addr)(tn:Nat->Heap->Prop)(J:It)(H':Hp)(_:itv=.ref it)(_:Inv X pins σ H' s2)(_:Turn X.prog X.w X.K tg J fp it tn)(_:tn 0 s2.heap)(_:(∀b∈fp,cw X pins H' b))(_:R J H')
def PI(X:Cx)(tg iter:Expr)(wi:TI):Prop:=
 ∀(pins:ZZ) (s:Shared) (σ:St) (H:Hp) (R:It->Hp->Prop),Inv X pins σ H s->wi σ H R->
  wpAny (model X.prog X.w) X.A (eval iter X.env) (λv s1=>wpAny (model X.prog X.w) X.A (pyIter v) (ya X pins σ tg R) X.xe s1) X.xe s
def uN{E:ZJ}{o:Obj}{n:String}{vs:Array Value}{Q:Unit->Shared->Prop}(ho:s.heap.get? it=some o)(hc:o.cls=.type n)(hd:o.data=.fields vs)
  (hn:["enumerate","zip","dict_itemiterator","dict_reverseitemiterator","odict_iterator","itertools.zip_longest","itertools.pairwise"].contains n=false) (hQ:Q () s):wpAny M A (letOwnedTupleGo tg (.ref it) u) Q E s:=by
 unfold letOwnedTupleGo;cases tg<;>first
  |exact wpAny_pure hQ
  |(cases u<;>first
    |exact wpAny_pure hQ
    |(refine wpAny_bind (wpAny_load ho ?_)
      rw[hc,hd];show wpAny M A (if(["enumerate","zip","dict_itemiterator","dict_reverseitemiterator","odict_iterator","itertools.zip_longest","itertools.pairwise"].contains n&&vs[0]?==some (rawInt _))=true then _ else _) Q E s;rw[if_neg (by intro h;rw[hn,Bool.false_and]at h;cases h)];exact wpAny_pure hQ))
def gT(K:ZX)(a:Addr):It:=
 #[λi H=>aX λxs x=>af K H a xs/\xs[i]?=some x,λi H x H'=>H'=H/\∀xs,af K H a xs->xs[i]?=some x,λi H=>∃xs,af K H a xs/\xs.length<=i]
def rA(K:ZX)(a:Addr):It:=
 #[λi H=>aX λxs x=>aI K H a xs/\xs[i]?=some x,λi H x H'=>H'=H/\∀xs,aI K H a xs->xs[i]?=some x,λi H=>∃xs,aI K H a xs/\xs.length<=i]
def gm(lo:Int)(n:Nat):It:=#[λi _=>i<n,λi H x H'=>H'=H/\x=.int (lo+i),λi _=>n<=i]
theorem LC(a it:Addr):Turn P w K tg (gT K a) [it] it (λi h=>h.IsListIter it a i) where
 mem:=by simp
 obj:=λi h st b hb=>by
  have e:b=it:=by simpa using hb
  subst e;obtain⟨o,e,c,d⟩:=st;exact#[o,e,λv z=>by rw[d]at z;cases z]
 keep:=λi h h' st k=>st.at λo e=>k it (by simp) o e
 item:=by
  intro X hP hw hK hc i pins s σ H E I hf st hg;subst hP hw hK;obtain⟨xs,x,hq,hx⟩:=hg;obtain⟨its,rv,p,hz⟩:=I.list hq;obtain⟨u,hu,ru⟩:=rv.get hx;obtain⟨f0,f1,f2,f3,f4,f5⟩:=hf it (by simp);refine wpAny_pyNext_list_item st p.isList (x:=u) (by simpa using hu) λh' st' sb=>?_;have I1:Inv X pins σ H {s with heap:=h'}:=I.turned (t':=s.toks) (λb o hb e=>(sb.2 b hb).trans e) f0 f1 f3 f4 f5;obtain⟨o,e,c,d⟩:=id st';exact#[u,rfl,uN (s:={s with heap:=h'}) e c d (by decide) #[x,H,I1,ru,#[rfl,λys hy=>by rw[I.o5 hy hq];exact hx],st',λb hb=>(hf b hb).1]]
 done:=by
  intro X hP hw hK hc i pins s σ H E I hf st hg;subst hP hw hK;obtain⟨xs,hq,hx⟩:=hg;obtain⟨its,rv,p,hz⟩:=I.list hq;obtain⟨f0,f1,f2,f3,f4,f5⟩:=hf it (by simp);have hl:=rv.length;exact wpAny_pyNext_list_end (I.ok.hd hc) st p.isList (by simp;lia) λh' eb=>#[rfl,I.turned (t':=s.toks) (λb o hb e=>eb b o hb e) f0 f1 f3 f4 f5]
 self:=λ_ _ _ _ _ st h=>wpAny_pyIter_listiter st h
theorem LD(a it:Addr):Turn P w K tg (rA K a) [it] it (λi h=>h.IsTupleIter it a i) where
 mem:=by simp
 obj:=λi h st b hb=>by
  have e:b=it:=by simpa using hb
  subst e;obtain⟨o,e,c,d⟩:=st;exact#[o,e,λv z=>by rw[d]at z;cases z]
 keep:=λi h h' st k=>st.at λo e=>k it (by simp) o e
 item:=by
  intro X hP hw hK hc i pins s σ H E I hf st hg;subst hP hw hK;obtain⟨xs,x,hq,hx⟩:=hg;obtain⟨its,rv,p,hz⟩:=I.tuple hq;obtain⟨u,hu,ru⟩:=rv.get hx;obtain⟨f0,f1,f2,f3,f4,f5⟩:=hf it (by simp);refine wpAny_pyNext_tuple_item st (show s.heap.IsTuple a its.toArray from p) (x:=u) (by simpa using hu) λh' st' sb=>?_;have I1:Inv X pins σ H {s with heap:=h'}:=I.turned (t':=s.toks) (λb o hb e=>(sb.2 b hb).trans e) f0 f1 f3 f4 f5;obtain⟨o,e,c,d⟩:=id st';exact#[u,rfl,uN (s:={s with heap:=h'}) e c d (by decide) #[x,H,I1,ru,#[rfl,λys hy=>by rw[I.Lu hy hq];exact hx],st',λb hb=>(hf b hb).1]]
 done:=by
  intro X hP hw hK hc i pins s σ H E I hf st hg;subst hP hw hK;obtain⟨xs,hq,hx⟩:=hg;obtain⟨its,rv,p,hz⟩:=I.tuple hq;obtain⟨f0,f1,f2,f3,f4,f5⟩:=hf it (by simp);have hl:=rv.length;exact wpAny_pyNext_tuple_end (I.ok.hd hc) st (show s.heap.IsTuple a its.toArray from p) (by simp;lia) λh' eb=>#[rfl,I.turned (t':=s.toks) (λb o hb e=>eb b o hb e) f0 f1 f3 f4 f5]
 self:=λ_ _ _ _ _ st h=>wpAny_pyIter_tupleiter st h
theorem LF(it:Addr)(lo:Int)(n:Nat):Turn P w K tg (gm lo n) [it] it (λi h=>IsRangeIter h it (lo+(i:Nat)*1) ((n:Int)-(i:Nat)) 1) where
 mem:=by simp
 obj:=λi h st b hb=>by
  have e:b=it:=by simpa using hb
  subst e;exact#[_,st,λv z=>by
   have z':Data.fields _=Data.cell v:=z;cases z']
 keep:=λi h h' st k=>k it (by simp) _ st
 item:=by
  intro X hP hw hK hc i pins s σ H E I hf st hg;subst hP hw hK;obtain⟨f0,f1,f2,f3,f4,f5⟩:=hf it (by simp);have W:=Walks.range (prog:=X.prog) (w:=X.w) (I.ok.hd hc) it lo 1 n;refine W.item i s _ _ hg st λv h' tk hv st' kk=>?_;obtain⟨t,rfl⟩:=hv;have I1:Inv X pins σ H {s with heap:=h',toks:=tk}:=I.turned (λb o hb e=>kk b o (by simpa using hb) e) f0 f1 f3 f4 f5;refine#[_,rfl,uN (s:={s with heap:=h',toks:=tk}) (n:="range_iterator") st' rfl rfl (by decide) #[.int (lo+i),H,I1,#[t,?_],#[rfl,rfl],st',λb hb=>(hf b hb).1]];rw[Int.mul_one]
 done:=by
  intro X hP hw hK hc i pins s σ H E I hf st hg;subst hP hw hK;obtain⟨f0,f1,f2,f3,f4,f5⟩:=hf it (by simp);exact wpAny_pyNext_range_end (I.ok.hd hc) st (by have:n<=i:=hg;lia) λh' eb=>#[rfl,I.turned (t':=s.toks) (λb o hb e=>eb b o hb e) f0 f1 f3 f4 f5]
 self:=λ_ _ _ _ _ st h=>wpAny_pyIter_rangeiter st h
inductive LH(K:ZX)(R:It->Hp->Prop)(x:V)(H1:Hp):Prop|mk(a:_)(_:x=.ref a)(_:(∃xs,af K H1 a xs))(_:R (gT K a) H1)
def LI(K:ZX)(tl:TE):TI:=λσ H R=>tl σ H λx H1=>LH K R x H1
inductive LJ(K:ZX)(R:It->Hp->Prop)(x:V)(H1:Hp):Prop|mk(a:_)(_:x=.ref a)(_:(∃xs,aI K H1 a xs))(_:R (rA K a) H1)
def LK(K:ZX)(tl:TE):TI:=λσ H R=>tl σ H λx H1=>LJ K R x H1
def gq(hl:PE X l tl):PI X tg l (LI X.K tl):=by
 intro pins s σ H R I h;refine aN (hl pins s σ H _ I h) λv s1 ⟨x,H1,I1,r1,q1⟩=>?_;obtain⟨a,e,⟨xs,hq⟩,q⟩:=q1;subst e;cases r1;obtain⟨its,rv,p,hz⟩:=I1.list hq;refine wpAny_pyIter_list p.isList ?_;refine#[s1.heap.objs.size,[s1.heap.objs.size],_,_,H1,rfl,I1.kept (t':=s1.toks) λb o e=>Heap.get?_push_of_some _ e,LC a _,#[_,Heap.get?_push_size _ rfl,rfl,rfl],λb hb=>?_,q];have e:b=s1.heap.objs.size:=by simpa using hb
 subst e;exact I1.iH (X0 _) (I1.aJ.fresh (X0 _))
def DJ(hl:PE X l tl):PI X tg l (LK X.K tl):=by
 intro pins s σ H R I h;refine aN (hl pins s σ H _ I h) λv s1 ⟨x,H1,I1,r1,q1⟩=>?_;obtain⟨a,e,⟨xs,hq⟩,q⟩:=q1;subst e;cases r1;obtain⟨its,rv,p,hz⟩:=I1.tuple hq;refine wpAny_pyIter_tuple (show s1.heap.IsTuple a its.toArray from p) ?_;refine#[s1.heap.objs.size,[s1.heap.objs.size],_,_,H1,rfl,I1.kept (t':=s1.toks) λb o e=>Heap.get?_push_of_some _ e,LD a _,#[_,Heap.get?_push_size _ rfl,rfl,rfl],λb hb=>?_,q];have e:b=s1.heap.objs.size:=by simpa using hb
 subst e;exact I1.iH (X0 _) (I1.aJ.fresh (X0 _))
theorem DK{R:It->Hp->Prop}{E:ZJ}{hi:Int}{t u v:Tok}{tk:Nat}(I:Inv X pins σ H s)(h1:-(2^62)<=lo)(h2:lo<2^62)(h3:-(2^62)<=hi)(h4:hi<2^62)
  (q:R (gm lo (hi-lo).toNat) H):wpAny (model X.prog X.w) X.A (pyIter (.ref s.heap.objs.size)) (ya X pins σ tg R) E {s with heap:=s.heap.push {cls:=.type "range",data:=.fields [.int lo t,.int hi u,.int 1 v].toArray},toks:=tk}:=by
 refine wpAny_pyIter_range (IsRange.new ..) (small_one h1 h2 h3 h4) ?_;have I1:Inv X pins σ H {s with heap:=s.heap.push {cls:=.type "range",data:=.fields [.int lo t,.int hi u,.int 1 v].toArray},toks:=tk}:=I.kept λb o e=>Heap.get?_push_of_some _ e;refine#[(s.heap.push {cls:=.type "range",data:=.fields [.int lo t,.int hi u,.int 1 v].toArray}).objs.size,[(s.heap.push {cls:=.type "range",data:=.fields [.int lo t,.int hi u,.int 1 v].toArray}).objs.size],_,_,H,rfl,
  I1.kept (t':=tk) λb o e=>Heap.get?_push_of_some _ e,LF _ lo (hi-lo).toNat,?_,λb hb=>?_,q]
 .have e1:lo+((0:Nat):Int)*1=lo:=by simp
  have e2:(((hi-lo).toNat:Nat):Int)-((0:Nat):Int)=Builtin.Range.rangeSize lo hi 1:=by rw[rangeSize_one];split<;>lia
  show IsRangeIter _ _ (lo+((0:Nat):Int)*1) ((((hi-lo).toNat:Nat):Int)-((0:Nat):Int)) 1;rw[e1,e2];exact Heap.get?_push_size _ rfl
 .have e:b=(s.heap.push {cls:=.type "range",data:=.fields [.int lo t,.int hi u,.int 1 v].toArray}).objs.size:=by simpa using hb
  subst e;exact I1.iH (X0 _) (I1.aJ.fresh (X0 _))
inductive LL(R:It->Hp->Prop)(vs:List V)(H1:Hp):Prop|mk(j:Int)(_:vs=[.int j])(_:-(2^62)<=j)(_:j<2^62)(_:R (gm 0 j.toNat) H1)
def LM(ta:TA):TI:=λσ H R=>ta σ H λvs H1=>LL R vs H1
inductive LN(R:It->Hp->Prop)(vs:List V)(H1:Hp):Prop|mk(i j:Int)(_:vs=[.int i,.int j])(_:(-(2^62)<=i/\i<2^62/\-(2^62)<=j/\j<2^62))(_:R (gm i (j-i).toNat) H1)
def LO(ta:TA):TI:=λσ H R=>ta σ H λvs H1=>LN R vs H1
theorem iJ{a:Expr}{ta:TA}(hg:Gl X "range")(hm:X.mg "range"=none)(ha:PA X [a] ta)(hs:starEach [a] X.env=[(false,eval a X.env)]:=by rfl):PI X tg (.Call (.Name "range" p) [a] [] pos) (LM ta):=by
 intro pins s σ H R I h;refine Call_ (ja I hg hm boot_range (PyProof.Rows.callWith_type1 (aN (ha pos pins s σ H _ I h) λus s1 ⟨vs,H1,I1,r1,q1⟩=>?_) hs rfl));obtain⟨j,e,q1,q2,q⟩:=q1;subst e;cases r1 with|cons r rr=>
  cases rr;obtain⟨t,rfl⟩:=r;exact call_range_1 (DK I1 (by lia) (by lia) q1 q2 (by simpa using q))
def rB{a b:Expr}{ta:TA}(hg:Gl X "range")(hm:X.mg "range"=none)(ha:PA X [a,b] ta)(hs:starEach [a,b] X.env=[(false,eval a X.env),(false,eval b X.env)]:=by rfl)(hs2:starEach [b] X.env=[(false,eval b X.env)]:=by rfl):
  PI X tg (.Call (.Name "range" p) [a,b] [] pos) (LO ta):=by
 intro pins s σ H R I h;refine Call_ (ja I hg hm boot_range (PyProof.Rows.callWith_type1 (aN (ha pos pins s σ H _ I h) λus s1 ⟨vs,H1,I1,r1,q1⟩=>?_) (by rw[hs,hs2]) (by rw[hs2];rfl)));obtain⟨i,j,e,⟨q1,q2,q3,q4⟩,q⟩:=q1;subst e;cases r1 with|cons r rr=>
  cases rr with|cons r' rr=>
   cases rr;obtain⟨t,rfl⟩:=r;obtain⟨t',rfl⟩:=r';exact call_range_2 (DK I1 q1 q2 q3 q4 q)
def LP(wi:TI)(g:TG)(tb:TS):TS:=λD σ H=>wi σ H λJ H1=>∃W:Nat->Nat->St->Hp->Prop,(∃m,W 0 m σ H1)/\∀i m σ H,W i m σ H->
 (J.stop i H/\D.nx σ H)\/(J.go i H/\∃N:St->Hp->Prop,(∀σ' H',N σ' H'->∃m',m'<m/\W (i+1) m' σ' H')/\∀x H',J.fD i H x H'->g x σ H' λσ2 H2=>tb {D with nx:=N,ct:=N,bk:=D.nx} σ2 H2)
def rC(fp:List Addr)(h:Heap):List (Addr×Obj):=fp.filterMap λb=>(h.get? b).map λo=>(b,o)
def yb{o:Obj}(hb:b∈fp)(e:h.get? b=some o):(b,o)∈rC fp h:=ZS.mpr #[b,hb,by rw[e];rfl]
def LQ{p:Addr×Obj}(hp:p∈rC fp h):p.1∈fp/\h.get? p.1=some p.2:=by
 obtain⟨b,hb,e⟩:=ZS.mp hp;cases q:h.get? b with|none=>rw[q]at e;cases e|some o=>
  rw[q]at e;have e':(b,o)=p:=XW e;subst e';exact#[hb,q]
def Inv.pinned(I:Inv X pins σ H s)(hf:∀b∈fp,cw X pins H b)(ho:∀b∈fp,∃o,s.heap.get? b=some o/\∀v,o.data≠.cell v):Inv X (pins++rC fp s.heap) σ H s:=
 I.uE λp hp=>(Yr.mp hp).elim (λz=>I.pin p (Yo _ z)) λz=>by
  obtain⟨hb,e⟩:=LQ z;obtain⟨f0,f1,f2,_⟩:=hf p.1 hb;obtain⟨o,e',d⟩:=ho p.1 hb;rw[e]at e';cases e';exact#[e,f0,f1,f2,d]
def Inv.ng{pl:ZZ}(I:Inv X (pins++pl) σ H s):Inv X pins σ H s:=I.uE λp hp=>I.pin p (Yo _ (Ze _ hp))
def dq{iter:Expr}{wi:TI}(hp:PassesOwn (model X.prog X.w) X.A X.env X.xe)(hc:X.calm=true)(hi:PI X tg iter wi)(hg:PG X tg g)(hb:dJ X body tb)
  (hs:∀x,foldedSetIterable iter X.env x=pure x:=by intro _;rfl):PS X (.For tg iter body [] pos) (LP wi g tb):=by
 intro pins s σ H D I h;refine wpAny_For (aN (hi pins s σ H _ I h) λv s1 h1=>aN h1 λitv s2 h2=>?_) hs;obtain⟨it,fp,tn,J,H2,e,I2,T,st2,f2,W,⟨m0,w0⟩,turn⟩:=h2;subst e;have stat:∀ {H':Hp},(∀b∈fp,H' b=none)->∀b∈fp,cw X pins H' b:=λhn b hb=>#[hn b hb,(f2 b hb).2]
 refine codeAny_forLoop_any (λn s'=>c8 λi σ' H'=>Inv X pins σ' H' s'/\tn i s'.heap/\(∀b∈fp,H' b=none)/\W i n σ' H') ?_ m0 #[0,σ,H2,I2,st2,λb hb=>(f2 b hb).1,w0];rintro n s3 ⟨i,σ3,H3,I3,st3,jL,w3⟩;rcases turn i n σ3 H3 w3 with⟨stop,qn⟩|⟨go,N,hN,step⟩
 .refine wpAny_passesOwn hp (aN (T.done X rfl rfl rfl hc i pins s3 σ3 H3 X.xe I3 (stat jL) st3 stop) λr s4 ⟨hr,I4⟩=>?_);subst hr;exact wpAny_execs_nil #[σ3,H3,I4,qn]
 .refine wpAny_passesOwn hp (aN (T.item X rfl rfl rfl hc i pins s3 σ3 H3 X.xe I3 (stat jL) st3 go) λr s4 ⟨u,hr,h4⟩=>?_);subst hr;refine wpAny_passesOwn hp (aN h4 λ_ s5 ⟨x,H5,I5,r5,y5,st5,yc⟩=>?_);have LR:=I5.pinned (stat yc) (T.obj _ _ st5);refine wpAny_passesOwn hp (aN (hg _ s5 σ3 H5 x u _ LR r5 (step x H5 y5)) λ_ s6 ⟨σ6,H6,I6,q6⟩=>?_);refine wpAny_passesOwn hp (aN (hb _ s6 σ6 H6 _ I6 q6) λf s7 q7=>?_);have again:∀ {σ7:St} {H7:Hp},Inv X (pins++rC fp s5.heap) σ7 H7 s7->N σ7 H7->∃m,m<n/\c8 λi σ' H'=>Inv X pins σ' H' s7/\tn i s7.heap/\(∀b∈fp,H' b=none)/\W i m σ' H':=λ{σ7 H7} I7 n7=>by
   obtain⟨m',hm,w7⟩:=hN σ7 H7 n7;refine#[m',hm,i+1,σ7,H7,I7.ng,T.keep _ _ _ st5 λb hb o e=>(I7.pin (b,o) (Yo _ (Yo _ (yb hb e)))).1,λb hb=>?_,w7];obtain⟨o,e,d⟩:=T.obj _ _ st5 b hb;exact(I7.pin (b,o) (Yo _ (Yo _ (yb hb e)))).2.1
  cases f with|next=>obtain⟨σ7,H7,I7,n7⟩:=q7;exact again I7 n7|cont=>obtain⟨σ7,H7,I7,n7⟩:=q7;exact again I7 n7|brk=>obtain⟨σ7,H7,I7,q7⟩:=q7;exact#[σ7,H7,I7.ng,q7]|ret v=>obtain⟨x7,σ7,H7,I7,r7,q7⟩:=q7;exact#[x7,σ7,H7,I7.ng,r7,q7]
theorem kF(Pv:Nat->St->Hp->Prop)(h0:Pv 0 σ H)(hl:∀i σ H,i<=xs.length->Pv i σ H->af K H a xs)
  (hs:∀i x σ H,xs[i]?=some x->Pv i σ H->g x σ H λσ2 H2=>tb {D with nx:=Pv (i+1),ct:=Pv (i+1),bk:=D.nx} σ2 H2) (hd:∀σ H,Pv xs.length σ H->D.nx σ H):
  ∃W:Nat->Nat->St->Hp->Prop,(∃m,W 0 m σ H)/\∀i m σ H,W i m σ H->
   ((gT K a).stop i H/\D.nx σ H)\/((gT K a).go i H/\∃N:St->Hp->Prop,(∀σ' H',N σ' H'->∃m',m'<m/\W (i+1) m' σ' H')/\∀x H',(gT K a).fD i H x H'->g x σ H' λσ2 H2=>tb {D with nx:=N,ct:=N,bk:=D.nx} σ2 H2):=by
 refine#[λi m σ H=>m=xs.length-i/\i<=xs.length/\Pv i σ H,#[xs.length,by simp,Yg _,h0],?_];rintro i m σ H ⟨rfl,hi,p⟩;have q:=hl i σ H hi p;by_cases hlt:i<xs.length
 .refine .inr #[#[xs,xs[i],q,by simp[hlt]],Pv (i+1),λσ' H' p'=>#[xs.length-(i+1),by lia,rfl,hlt,p'],λx H' y=>?_];obtain⟨e,y⟩:=y;subst e;exact hs i x σ _ (y xs q) p
 .have e:i=xs.length:=by lia
  subst e;exact .inl #[#[xs,q,X0 _],hd σ H p]
theorem DL(Pv:Nat->St->Hp->Prop)(h0:Pv 0 σ H)(hl:∀i σ H,i<=xs.length->Pv i σ H->aI K H a xs)
  (hs:∀i x σ H,xs[i]?=some x->Pv i σ H->g x σ H λσ2 H2=>tb {D with nx:=Pv (i+1),ct:=Pv (i+1),bk:=D.nx} σ2 H2) (hd:∀σ H,Pv xs.length σ H->D.nx σ H):
  ∃W:Nat->Nat->St->Hp->Prop,(∃m,W 0 m σ H)/\∀i m σ H,W i m σ H->
   ((rA K a).stop i H/\D.nx σ H)\/((rA K a).go i H/\∃N:St->Hp->Prop,(∀σ' H',N σ' H'->∃m',m'<m/\W (i+1) m' σ' H')/\∀x H',(rA K a).fD i H x H'->g x σ H' λσ2 H2=>tb {D with nx:=N,ct:=N,bk:=D.nx} σ2 H2):=by
 refine#[λi m σ H=>m=xs.length-i/\i<=xs.length/\Pv i σ H,#[xs.length,by simp,Yg _,h0],?_];rintro i m σ H ⟨rfl,hi,p⟩;have q:=hl i σ H hi p;by_cases hlt:i<xs.length
 .refine .inr #[#[xs,xs[i],q,by simp[hlt]],Pv (i+1),λσ' H' p'=>#[xs.length-(i+1),by lia,rfl,hlt,p'],λx H' y=>?_];obtain⟨e,y⟩:=y;subst e;exact hs i x σ _ (y xs q) p
 .have e:i=xs.length:=by lia
  subst e;exact .inl #[#[xs,q,X0 _],hd σ H p]
theorem jM(Pv:Nat->St->Hp->Prop)(h0:Pv 0 σ H)
  (hs:∀i σ H,i<n->Pv i σ H->g (.int (lo+i)) σ H λσ2 H2=>tb {D with nx:=Pv (i+1),ct:=Pv (i+1),bk:=D.nx} σ2 H2) (hd:∀σ H,Pv n σ H->D.nx σ H):
  ∃W:Nat->Nat->St->Hp->Prop,(∃m,W 0 m σ H)/\∀i m σ H,W i m σ H->
   ((gm lo n).stop i H/\D.nx σ H)\/((gm lo n).go i H/\∃N:St->Hp->Prop,(∀σ' H',N σ' H'->∃m',m'<m/\W (i+1) m' σ' H')/\∀x H',(gm lo n).fD i H x H'->g x σ H' λσ2 H2=>tb {D with nx:=N,ct:=N,bk:=D.nx} σ2 H2):=by
 refine#[λi m σ H=>m=n-i/\i<=n/\Pv i σ H,#[n,by simp,Yg _,h0],?_];rintro i m σ H ⟨rfl,hi,p⟩;by_cases hlt:i<n
 .refine .inr #[hlt,Pv (i+1),λσ' H' p'=>#[n-(i+1),by lia,rfl,hlt,p'],λx H' y=>?_];obtain⟨e,y⟩:=y;subst e y;exact hs i σ _ hlt p
 .have e:i=n:=by lia
  subst e;exact .inl #[X0 _,hd σ H p]
def yd{c:TT}(Pv:St->Hp->Prop)(μ:St->Hp->Nat)(h0:Pv σ H)
  (hs:∀σ H,Pv σ H->c σ H λb H1=>if b=true then tb {D with nx:=λσ' H'=>Pv σ' H'/\μ σ' H'<μ σ H,ct:=λσ' H'=>Pv σ' H'/\μ σ' H'<μ σ H,bk:=D.nx} σ H1 else D.nx σ H1)
  (mono:∀σ H Q Q',(∀b H1,Q b H1->Q' b H1)->c σ H Q->c σ H Q'):DI c tb D σ H:=by
 refine#[λm σ H=>m=μ σ H/\Pv σ H,#[_,rfl,h0],?_];rintro m σ H ⟨rfl,p⟩;refine mono σ H _ _ (λb H1 q=>?_) (hs σ H p);cases b with|true=>exact#[_,λσ' H' ⟨p',l⟩=>#[_,l,rfl,p'],q]|false=>exact q
abbrev R2:=V->V->Hp->VK->Prop
def bZ(X:Cx)(f:Value->Value->Sem Value)(r:R2):Prop:=
 ∀(pins:ZZ) (s:Shared) (σ:St) (H:Hp) (x y:V) (v u:Value) (Q:VK),Inv X pins σ H s->RelV x v->RelV y u->r x y H Q->
  wpAny (model X.prog X.w) X.A (f v u) (EP X pins σ Q) X.xe s
def gU(X:Cx)(f:Value)(r:List V->Hp->VK->Prop):Prop:=
 ∀(pins:ZZ) (s:Shared) (σ:St) (H:Hp) (xs:List V) (us:List Value) (Q:VK),Inv X pins σ H s->Vals xs us->r xs H Q->
  wpAny (model X.prog X.w) X.A (call f us) (EP X pins σ Q) X.xe s
def LS(X:Cx)(r:V->Hp->(Bool->Hp->Prop)->Prop):Prop:=
 ∀(pins:ZZ) (s:Shared) (σ:St) (H:Hp) (x:V) (v:Value) (Q:Bool->Hp->Prop),Inv X pins σ H s->RelV x v->r x H Q->
  wpAny (model X.prog X.w) X.A (truthy v) (TP X pins σ Q) X.xe s
def iK(r:R2)(ta tb:TE):TE:=λσ H Q=>ta σ H λx H1=>tb σ H1 λy H2=>r x y H2 Q
inductive rI(C:Int->Int->Prop)(g:Int->Int->V)(x:V)(y:V)(H:Hp)(Q:VK):Prop|mk(i j:_)(_:x=.int i)(_:y=.int j)(_:C i j)(_:Q (g i j) H)
inductive gr(g:Int->Int->V)(x:V)(y:V)(H:Hp)(Q:VK):Prop|mk(i j:_)(_:x=.int i)(_:y=.int j)(_:Q (g i j) H)
section
variable{a b:Expr}{tb tc:TE}
def ye(ha:PE X a ta)(hb:PE X b tb){R:V->V->Hp->Prop}(I:Inv X pins σ H s)
  (h:ta σ H λx H1=>tb σ H1 λy H2=>R x y H2) {Q:ZJ} {f:Value->Value->Sem Value}
  (hf:∀v u s2 x y H2,Inv X pins σ H2 s2->RelV x v->RelV y u->R x y H2->wpAny (model X.prog X.w) X.A (f v u) Q X.xe s2):
  wpAny (model X.prog X.w) X.A (eval a X.env) (λv s₁=>wpAny (model X.prog X.w) X.A (eval b X.env) (λu s₂=>wpAny (model X.prog X.w) X.A (f v u) Q X.xe s₂) X.xe s₁) X.xe s:=by
 refine aN (ha pins s σ H _ I h) λv s1 ⟨x,H1,I1,r1,q1⟩=>?_;refine aN (hb pins s1 σ H1 _ I1 q1) λu s2 ⟨y,H2,I2,r2,q2⟩=>?_;exact hf v u s2 x y H2 I2 r1 r2 q2
def aO{op:Operator}(ho:bZ X (binaryOp op) r)(ha:PE X a ta)(hb:PE X b tb):PE X (.BinOp a op b pos) (iK r ta tb):=by
 intro pins s σ H Q I h;exact wpAny_BinOp (ye ha hb I h λv u s2 x y H2 I2 rx ry q=>ho pins s2 σ H2 x y v u Q I2 rx ry q)
def rD{f:Value->Value->Sem Value}{C:Int->Int->Prop}{g:Int->Int->Int}
  (rule:∀(i j:Int) (t u:Tok) (s:Shared) (Q:ZJ) (E:ZJ),C i j->Q (.int (g i j) s.toks) {s with toks:=s.toks+1}->wpAny (model X.prog X.w) X.A (f (.int i t) (.int j u)) Q E s):
  bZ X f (rI C λi j=>.int (g i j)):=by
 intro pins s σ H x y v u Q I rx ry h;obtain⟨i,j,rfl,rfl,hc,q⟩:=h;obtain⟨t,rfl⟩:=rx;obtain⟨t',rfl⟩:=ry;exact rule i j t t' s _ _ hc #[.int (g i j),H,I.tok _,#[_,rfl],q]
def uO{f:Value->Value->Sem Value}{g:Int->Int->Int}
  (rule:∀(i j:Int) (t u:Tok) (s:Shared) (Q:ZJ) (E:ZJ),Q (.int (g i j) s.toks) {s with toks:=s.toks+1}->wpAny (model X.prog X.w) X.A (f (.int i t) (.int j u)) Q E s):
  bZ X f (gr λi j=>.int (g i j)):=by
 intro pins s σ H x y v u Q I rx ry h;obtain⟨i,j,rfl,rfl,q⟩:=h;obtain⟨t,rfl⟩:=rx;obtain⟨t',rfl⟩:=ry;exact rule i j t t' s _ _ #[.int (g i j),H,I.tok _,#[_,rfl],q]
def uP{f:Value->Value->Sem Value}{g:Int->Int->Bool}
  (rule:∀(i j:Int) (t u:Tok) (s:Shared) (Q:ZJ) (E:ZJ),Q (.bool (g i j)) s->wpAny (model X.prog X.w) X.A (f (.int i t) (.int j u)) Q E s):
  bZ X f (gr λi j=>.bl (g i j)):=by
 intro pins s σ H x y v u Q I rx ry h;obtain⟨i,j,rfl,rfl,q⟩:=h;obtain⟨t,rfl⟩:=rx;obtain⟨t',rfl⟩:=ry;exact rule i j t t' s _ _ #[.bl (g i j),H,I,rfl,q]
def LU(i j:Int):Prop:=0<j/\j<1073741824
def LV(i j:Int):Prop:=0<=j/\j<=1000000/\i.natAbs<2^64
def yf(i j:Int):Prop:=(-(2^64)<i/\i<2^64)\/(-(2^64)<j/\j<2^64)
def yf.ok{i j:Int}(h:yf i j):IntMulOk i j:=by
 rcases h with⟨h1,h2⟩|⟨h1,h2⟩
 .exact .of_left (intBits_le_64 h1 h2)
 .exact .of_right (intBits_le_64 h1 h2)
def DM(k:Nat):(0:Int)<=2^k:=by
 rw[two_pow_cast];exact Int.natCast_nonneg _
def bS:bZ X (binaryOp .Add) (gr λi j=>.int (i+j)):=uO λ_ _ _ _ _ _ _ q=>add_int q
def dM:bZ X (binaryOp .Sub) (gr λi j=>.int (i-j)):=uO λ_ _ _ _ _ _ _ q=>sub_int q
def rE:bZ X (binaryOp .Mult) (rI yf λi j=>.int (i*j)):=rD λ_ _ _ _ _ _ _ hc q=>mul_int q hc.ok
theorem LW:bZ X (binaryOp .FloorDiv) (rI LU λi j=>.int (i / j)):=rD λi j _ _ _ _ _ hc q=>by
 have h1:(0:Int)<j:=hc.1;have h2:j<1073741824:=hc.2;exact floordiv_int (by lia) (by rw[aan i (by lia)];exact q) (.inl (PyProof.noPylong_small (by lia)))
theorem DO:bZ X (binaryOp .Mod) (rI (λ_ j=>0<j) λi j=>.int (i%j)):=rD λi j _ _ _ _ _ hc q=>by
 have h1:(0:Int)<j:=hc;exact mod_int' (by lia) (by rw[Int.fmod_eq_emod_of_nonneg i (by lia)];exact q)
def yg:bZ X (binaryOp .LShift) (rI LV λi j=>.int (i*2^j.toNat)):=rD λ_ _ _ _ _ _ _ hc q=>lshift_int_small hc.1 hc.2.1 hc.2.2 q
def DP:bZ X (binaryOp .RShift) (rI (λ_ j=>0<=j) λi j=>.int (i / 2^j.toNat)):=rD λi j _ _ _ _ _ hc q=>
 rshift_int hc (by rw[aan i (DM _)];exact q)
def DQ:bZ X (binaryOp .BitAnd) (gr λi j=>.int (Builtin.bitAnd i j)):=uO λ_ _ _ _ _ _ _ q=>and_int q
def uQ:bZ X (binaryOp .BitOr) (gr λi j=>.int (Builtin.bitOr i j)):=uO λ_ _ _ _ _ _ _ q=>or_int q
end
def DR:V->V->Bool
 |.ay,.ay=>true|.ay,.int _=>true|.int _,.ay=>true|.ay,.bl _=>true|.bl _,.ay=>true|.ay,.str _=>true|.str _,.ay=>true
 |.int _,.int _=>true|.bl _,.bl _=>true|.str _,.str _=>true|.d6 _,.d6 _=>true
 |.int _,.str _=>true|.str _,.int _=>true|.bl _,.str _=>true|.str _,.bl _=>true
 |_,_=>false
def DS:R2:=λx y H Q=>DR x y=true/\Q (.bl (decide (x=y))) H
def LX:R2:=λx y H Q=>DR x y=true/\Q (.bl (!decide (x=y))) H
def DT{i j:Int}:decide (V.int i=V.int j)=(i==j):=by
 rw[Y4];simp
def DU{i j:Bool}:decide (V.bl i=V.bl j)=(i==j):=by
 rw[Y4];simp
def DV{i j:Str}:decide (V.str i=V.str j)=(i==j):=by
 rw[Y4];simp
def DX{i j:Array UInt8}:decide (V.d6 i=V.d6 j)=(i.toList==j.toList):=by
 rw[Y4];cases i;cases j;simp
section
variable{a b:Expr}{tb tc:TE}
def cg{k k':Bool}(I:Inv X pins σ H s)(q:Q (.bl k) H)(e:k=k'):EP X pins σ Q (.bool k') s:=by
 subst e;exact#[.bl k,H,I,rfl,q]
def bL:bZ X (compareOp .Eq) DS:=by
 intro pins s σ H x y v u Q I rx ry h;obtain⟨hs,q⟩:=h;cases x with
 |ay=>
  cases rx;cases y with|ay=>cases ry;exact PySem.EqNone.eq_none_none (cg I q (by simp))|bl j=>cases ry;exact PySem.EqNone.eq_none_bool (cg I q (by simp))|int j=>obtain⟨t',rfl⟩:=ry;exact PySem.EqNone.eq_none_int (cg I q (by simp))|str j=>obtain⟨t',rfl⟩:=ry;exact PySem.EqNone.eq_none_str (cg I q (by simp))|_=>exact absurd (show false=true from hs) X9
 |bl i=>
  cases rx;cases y with|ay=>cases ry;exact PySem.EqNone.eq_bool_none (cg I q (by simp))|bl j=>cases ry;exact eq_bool (cg I q DU)|str j=>obtain⟨t',rfl⟩:=ry;exact PySem.EqMixed.eq_bool_str (cg I q (by simp))|_=>exact absurd (show false=true from hs) X9
 |int i=>
  obtain⟨t,rfl⟩:=rx;cases y with|ay=>cases ry;exact PySem.EqNone.eq_int_none (cg I q (by simp))|int j=>obtain⟨t',rfl⟩:=ry;exact eq_int (cg I q DT)|str j=>obtain⟨t',rfl⟩:=ry;exact PySem.EqMixed.eq_int_str (cg I q (by simp))|_=>exact absurd (show false=true from hs) X9
 |str i=>
  obtain⟨t,rfl⟩:=rx;cases y with|ay=>cases ry;exact PySem.EqNone.eq_str_none (cg I q (by simp))|bl j=>cases ry;exact PySem.EqMixed.eq_str_bool (cg I q (by simp))|int j=>obtain⟨t',rfl⟩:=ry;exact PySem.EqMixed.eq_str_int (cg I q (by simp))|str j=>obtain⟨t',rfl⟩:=ry;exact eq_str (cg I q DV)|_=>exact absurd (show false=true from hs) X9
 |d6 i=>
  obtain⟨t,rfl⟩:=rx;cases y with|d6 j=>obtain⟨t',rfl⟩:=ry;exact PySem.W.eq_bytes (cg I q DX)|_=>exact absurd (show false=true from hs) X9
 |_=>cases y<;>exact absurd (show false=true from hs) X9
def uR:bZ X (compareOp .NotEq) LX:=by
 intro pins s σ H x y v u Q I rx ry h;obtain⟨hs,q⟩:=h;cases x with
 |ay=>
  cases rx;cases y with|ay=>cases ry;exact PySem.EqNone.ne_none_none (cg I q (by simp))|bl j=>cases ry;exact PySem.EqNone.ne_none_bool (cg I q (by simp))|int j=>obtain⟨t',rfl⟩:=ry;exact PySem.EqNone.ne_none_int (cg I q (by simp))|str j=>obtain⟨t',rfl⟩:=ry;exact PySem.EqNone.ne_none_str (cg I q (by simp))|_=>exact absurd (show false=true from hs) X9
 |bl i=>
  cases rx;cases y with|ay=>cases ry;exact PySem.EqNone.ne_bool_none (cg I q (by simp))|bl j=>cases ry;exact ne_bool (cg I q (congrArg not DU))|str j=>obtain⟨t',rfl⟩:=ry;exact PySem.EqMixed.ne_bool_str (cg I q (by simp))|_=>exact absurd (show false=true from hs) X9
 |int i=>
  obtain⟨t,rfl⟩:=rx;cases y with|ay=>cases ry;exact PySem.EqNone.ne_int_none (cg I q (by simp))|int j=>obtain⟨t',rfl⟩:=ry;exact ne_int (cg I q (congrArg not DT))|str j=>obtain⟨t',rfl⟩:=ry;exact PySem.EqMixed.ne_int_str (cg I q (by simp))|_=>exact absurd (show false=true from hs) X9
 |str i=>
  obtain⟨t,rfl⟩:=rx;cases y with|ay=>cases ry;exact PySem.EqNone.ne_str_none (cg I q (by simp))|bl j=>cases ry;exact PySem.EqMixed.ne_str_bool (cg I q (by simp))|int j=>obtain⟨t',rfl⟩:=ry;exact PySem.EqMixed.ne_str_int (cg I q (by simp))|str j=>obtain⟨t',rfl⟩:=ry;exact ne_str (cg I q (congrArg not DV))|_=>exact absurd (show false=true from hs) X9
 |d6 i=>
  obtain⟨t,rfl⟩:=rx;cases y with|d6 j=>obtain⟨t',rfl⟩:=ry;exact PySem.W.ne_bytes (cg I q (congrArg not DX))|_=>exact absurd (show false=true from hs) X9
 |_=>cases y<;>exact absurd (show false=true from hs) X9
def gu:bZ X (compareOp .Lt) (gr λi j=>.bl (decide (i<j))):=uP λ_ _ _ _ _ _ _ q=>lt_int q
def dN:bZ X (compareOp .LtE) (gr λi j=>.bl (decide (i<=j))):=uP λ_ _ _ _ _ _ _ q=>le_int q
def gX:bZ X (compareOp .Gt) (gr λi j=>.bl (decide (j<i))):=uP λ_ _ _ _ _ _ _ q=>gt_int q
def yh:bZ X (compareOp .GtE) (gr λi j=>.bl (decide (j<=i))):=uP λ_ _ _ _ _ _ _ q=>ge_int q
def jN:bZ X (compareOp .Is) (λx y H Q=>y=.ay/\Q (.bl (decide (x=.ay))) H):=by
 intro pins s σ H x y v u Q I rx ry h;obtain⟨rfl,q⟩:=h;cases ry;refine is_none_gen (cg I q ?_);cases x<;>first
  |(cases rx;rfl)
  |(obtain⟨t,rfl⟩:=rx;rfl)
def yi:bZ X (compareOp .IsNot) (λx y H Q=>y=.ay/\Q (.bl (!decide (x=.ay))) H):=by
 intro pins s σ H x y v u Q I rx ry h;obtain⟨rfl,q⟩:=h;cases ry;refine isnot_none_gen (cg I q ?_);cases x<;>first
  |(cases rx;rfl)
  |(obtain⟨t,rfl⟩:=rx;rfl)
def DY(b:Expr){op:CmpOp}(h:op≠.In:=by decide)(h2:op≠.NotIn:=by decide):behindInMarks op b=false:=by
 have e1:(op==CmpOp.In)=false:=by cases op<;>first|rfl|exact absurd rfl h
 have e2:(op==CmpOp.NotIn)=false:=by cases op<;>first|rfl|exact absurd rfl h2
 cases b<;>simp[behindInMarks,e1,e2]
def LY{op:CmpOp}(ho:bZ X (compareOp op) r)(ha:PE X a ta)(hb:PE X b tb)(hm:behindInMarks op b=false):PE X (.Compare a [op] [b] pos) (iK r ta tb):=by
 intro pins s σ H Q I h;exact wpAny_Compare1 (ye ha hb I h λv u s2 x y H2 I2 rx ry q=>ho pins s2 σ H2 x y v u Q I2 rx ry q) hm
inductive LZ(Q:Bool->Hp->Prop)(x:V)(H':Hp):Prop|mk(k:_)(_:x=.bl k)(_:Q k H')
def rF(t:TE):TT:=λσ H Q=>t σ H λx H'=>LZ Q x H'
def rH{op:CmpOp}(ho:bZ X (compareOp op) r)(ha:PE X a ta)(hb:PE X b tb)(hm:behindInMarks op b=false):PT X (.Compare a [op] [b] pos) (rF (iK r ta tb)):=by
 intro pins s σ H Q I h;refine wpAny_isTrue_Compare1 (aN (ha pins s σ H _ I h) λv s1 ⟨x,H1,I1,r1,q1⟩=>aN (hb pins s1 σ H1 _ I1 q1) λu s2 ⟨y,H2,I2,r2,q2⟩=>
  aN (ho pins s2 σ H2 x y v u _ I2 r1 r2 q2) λc s3 ⟨z,H3,I3,r3,k,e,q3⟩=>?_) hm
 subst e;cases r3;exact wpAny_truthy_bool #[H3,I3,q3]
inductive L4(r':R2)(tc:TE)(σ:St)(Q:VK)(y:V)(z:V)(H3:Hp):Prop|mk(k:_)(_:z=.bl k)(_:(if k=true then tc σ H3 λw' H4=>r' y w' H4 Q else Q (.bl false) H3))
def yj(r r':R2)(ta tb tc:TE):TE:=λσ H Q=>ta σ H λx H1=>tb σ H1 λy H2=>r x y H2 λz H3=>L4 r' tc σ Q y z H3
def yk{op:CmpOp}(ho:bZ X (compareOp op) r)(ho':bZ X (compareOp op') r')(ha:PE X a ta)(hb:PE X b tb)(hc:PE X c tc)
  (hm:lastMarks [op,op'] [b,c]=false:=by with_unfolding_all rfl):PE X (.Compare a [op,op'] [b,c] pos) (yj r r' ta tb tc):=by
 intro pins s σ H Q I h;refine Compare_chain (aN (ha pins s σ H _ I h) λv s1 ⟨x,H1,I1,r1,q1⟩=>chain_link (aN (hb pins s1 σ H1 _ I1 q1) λu s2 ⟨y,H2,I2,r2,q2⟩=>
  aN (ho pins s2 σ H2 x y v u _ I2 r1 r2 q2) λd s3 ⟨z,H3,I3,r3,k,e,q3⟩=>?_)) hm
 subst e;cases r3;refine wpAny_truthy_bool ?_;cases k with|false=>exact ite_ff #[.bl false,H3,I3,rfl,q3]|true=>exact ite_tt (chain_last (aN (hc pins s3 σ H3 _ I3 q3) λw' s4 ⟨z',H4,I4,r4,q4⟩=>ho' pins s4 σ H4 y z' u w' Q I4 r2 r4 q4))
def uS{op:CmpOp}(ho:bZ X (compareOp op) r)(ho':bZ X (compareOp op') r')(ha:PE X a ta)(hb:PE X b tb)(hc:PE X c tc)
  (hm:lastMarks [op,op'] [b,c]=false:=by with_unfolding_all rfl):PT X (.Compare a [op,op'] [b,c] pos) (rF (yj r r' ta tb tc)):=by
 intro pins s σ H Q I h;refine isTrue_chain (aN (ha pins s σ H _ I h) λv s1 ⟨x,H1,I1,r1,q1⟩=>test_link (aN (hb pins s1 σ H1 _ I1 q1) λu s2 ⟨y,H2,I2,r2,q2⟩=>
  aN (ho pins s2 σ H2 x y v u _ I2 r1 r2 q2) λd s3 ⟨z,H3,I3,r3,k,e,q3⟩=>?_)) hm
 subst e;cases r3;refine wpAny_truthy_bool ?_;cases k with
 |false=>
  obtain⟨k',e',q'⟩:=q3;cases e';exact ite_ff #[H3,I3,q']
 |true=>
  refine ite_tt (test_last (aN (hc pins s3 σ H3 _ I3 q3) λw' s4 ⟨z',H4,I4,r4,q4⟩=>aN (ho' pins s4 σ H4 y z' u w' _ I4 r2 r4 q4) λd' s5 ⟨z2,H5,I5,r5,k2,e2,q5⟩=>?_));subst e2;cases r5;exact wpAny_truthy_bool #[H5,I5,q5]
def DZ(K:ZX)(x:V)(H:Hp)(k:Bool):Prop:=
 match x with
 |.ay=>k=false
 |.bl b=>k=b
 |.int i=>k=(i != 0)
 |.str y=>y.length<=sizeLine/\k=((y.length:Int) != 0)
 |.d6 y=>y.size<=sizeLine/\k=((y.size:Int) != 0)
 |.ref p=>(∃xs,af K H p xs/\k=!xs.isEmpty)\/(∃xs,aI K H p xs/\k=!xs.isEmpty)\/∃kvs,H p=some (.dK kvs)/\k=!kvs.isEmpty
 |_=>False
def L5{κ:Type}{kvs:List (κ×V)}{vs:List (κ×Value)}(r:KV kvs vs):(!vs.isEmpty)=!kvs.isEmpty:=by
 cases r<;>rfl
def D0{its:List Value}(r:Vals xs its):(!its.toArray.isEmpty)=!xs.isEmpty:=by
 cases r<;>simp
def o8:(sizeLine:Nat)<2^63:=by rw[sizeLine_eq];decide
theorem L6:LS X (λx H Q=>∃k,DZ X.K x H k/\Q k H):=by
 intro pins s σ H x v Q I rx h;obtain⟨k,e,q⟩:=h;have hl:=o8;have hs:sizeLine=16777216:=sizeLine_eq;cases x with
 |ay=>
  cases rx;have e':k=false:=e;subst e';exact truthy_none #[H,I,q]
 |bl b=>
  cases rx;have e':k=b:=e;subst e';exact wpAny_truthy_bool #[H,I,q]
 |int i=>
  obtain⟨t,rfl⟩:=rx;have e':k=(i != 0):=e;subst e';exact PySem.P.truthy_int #[H,I,q]
 |str y=>
  obtain⟨t,rfl⟩:=rx;obtain⟨hy,e'⟩:y.length<=sizeLine/\k=((y.length:Int) != 0):=e;subst e';exact PySem.P.truthy_str (by lia) #[H,I.tok _,q]
 |d6 y=>
  obtain⟨t,rfl⟩:=rx;obtain⟨hy,e'⟩:y.size<=sizeLine/\k=((y.size:Int) != 0):=e;subst e';exact PySem.W.truthy_bytes (by lia) #[H,I.tok _,q]
 |ref p=>
  cases rx;have e':(∃xs,af X.K H p xs/\k=!xs.isEmpty)\/(∃xs,aI X.K H p xs/\k=!xs.isEmpty)\/∃kvs,H p=some (.dK kvs)/\k=!kvs.isEmpty:=e;rcases e' with⟨xs,hx,e'⟩|⟨xs,hx,e'⟩|⟨kvs,hx,e'⟩
  .subst e';obtain⟨its,r,pl,hz⟩:=I.list hx;have hlen:=r.length;exact wpAny_truthy_list pl.isList (by simp only[X3];lia) #[H,I.tok _,by rw[D0 r];exact q]
  .subst e';obtain⟨its,r,pl,hz⟩:=I.tuple hx;have hlen:=r.length;exact truthy_tuple pl (by simp only[X3];lia) #[H,I.tok _,by rw[D0 r];exact q]
  .subst e';obtain⟨hz,hS,vs,r,m⟩:kvs.length<=sizeLine/\(p==sysModules)=false/\∃vs,KV kvs vs/\s.heap.DictOf (d5 X.prog X.w) p vs:=I.aJ p _ hx;have hlen:kvs.length=vs.length:=Paired.length r;exact wpAny_truthy_dict hS m (by lia) #[H,I.tok _,by rw[L5 r];exact q]
 |_=>exact(show False from e).elim
def e_(ha:PE X a ta)(he:∀whole,isTrue a X.env whole=(do let v<-whole;standAt a.pos;holding [v] (truthy v))):
  PT X a (λσ H Q=>ta σ H λx H'=>∃k,DZ X.K x H' k/\Q k H'):=by
 intro pins s σ H Q I h;exact isTrue_plain (aN (ha pins s σ H _ I h) λv s1 ⟨x,H1,I1,r1,q1⟩=>L6 pins s1 σ H1 x v Q I1 r1 q1) (he _)
def vals1{x:V}(r:Vals [x] us):∃u,us=[u]/\RelV x u:=by
 cases r with|cons r1 r2=>cases r2;exact#[_,rfl,r1]
def vals2{x:V}(r:Vals [x,y] us):aX λu w'=>us=[u,w']/\RelV x u/\RelV y w':=by
 cases r with|cons r1 r2=>
  cases r2 with|cons r3 r4=>cases r4;exact#[_,_,rfl,r1,r3]
def D1(hc:X.calm=true):gU X (.builtin "max") (λxs H Q=>aX λi j=>xs=[.int i,.int j]/\Q (.int (if j>i then j else i)) H):=by
 intro pins s σ H xs us Q I r h;obtain⟨i,j,rfl,q⟩:=h;obtain⟨u,w',rfl,⟨t,rfl⟩,⟨t',rfl⟩⟩:=vals2 r;refine max_two_ints (I.ok.hd hc) λh' tk k=>#[_,H,I.kept k,?_,q]
 by_cases hj:j>i
 .rw[if_pos hj,if_pos hj];exact#[_,rfl]
 .rw[if_neg hj,if_neg hj];exact#[_,rfl]
def L7(hc:X.calm=true):gU X (.builtin "min") (λxs H Q=>aX λi j=>xs=[.int i,.int j]/\Q (.int (if j<i then j else i)) H):=by
 intro pins s σ H xs us Q I r h;obtain⟨i,j,rfl,q⟩:=h;obtain⟨u,w',rfl,⟨t,rfl⟩,⟨t',rfl⟩⟩:=vals2 r;refine min_two_ints (I.ok.hd hc) λh' tk k=>#[_,H,I.kept k,?_,q]
 by_cases hj:j<i
 .rw[if_pos hj,if_pos hj];exact#[_,rfl]
 .rw[if_neg hj,if_neg hj];exact#[_,rfl]
end
structure ni(h:Heap)(x dx C:Addr)(mA:ZQ):Prop where
 obj:h.get? x=some (PySem.W.instObj C dx)
 ns:h.Ns1 dx mA
 ne:dx≠x
set_option tactic.hygienic true in
def L8(n:h.Ns1 dx mA):∃od,h.get? dx=some od/\∀name,PySem.W.lookIn name od=some (mA name):=by
 obtain⟨o,es,ep,ho,hd,hk,_,hm⟩:=n;refine#[o,ho,λname=>?_];have e:=hm name;unfold nsFind findBy at e;rw[<-Array.find?_toList]at e;unfold PySem.W.lookIn;rw[hd];dsimp only;split
 .rename_i y q;rw[q]at e;exact congrArg some e
 .rename_i q;rw[q]at e;have a:es.toList.any (·.refKey)=false:=by
   rw[List.any_eq_false];intro y hy;obtain⟨z,t,hkey⟩:=hk y (Array.mem_toList_iff.mp hy);simp[DictEntry.refKey,hkey]
  have a':¬es.toList.any (·.refKey)=true:=by rw[a];exact X9
  rw[if_neg a'];exact congrArg some e
def ni.look{x:Addr}(I:ni h x dx C mA):∃od,PySem.W.InstAt h x (PySem.W.instObj C dx) C (some od)/\∀name,PySem.W.lookIn name od=some (mA name):=
 let⟨od,ho,hl⟩:=L8 I.ns
 #[od,#[I.obj,rfl,rfl,ho],hl]
section
variable{E:ZJ}{x:Addr}{v:Value}
def get_map{expr:Bool}{Q:ZJ}(X:K.In s.heap)(I:ni s.heap x dx C mA)(hg:PySem.W.plainGet K C name=true)(hh:PySem.W.hasDictIn K C=true)
  (ha:PySem.W.findIn K (.ref C) name=some none) (hv:mA name=some v) (hv':PySem.W.handedIn v=true) (h:Q v {s with toks:=s.toks+1}):
  wpAny (model prog w) A (getAttr (.ref x) name expr) Q E s:=by
 obtain⟨od,J,hl⟩:=I.look;exact PySem.W.get_value X J (PySem.W.plainGet_of hg).1 (PySem.W.findObj_own hh ha rfl (by rw[hl,hv])) hv' h
def L9{pl:Sem Bool}{Q:Value×List Value->Shared->Prop}(X:K.In s.heap)(I:ni s.heap x dx C mA)(hg:PySem.W.plainGet K C name=true)
  (hf:PySem.W.findIn K (.ref C) name=some (some (.ref f))) (ht:PySem.W.isFn K (.ref f)=true) (hv:mA name=none) (h:Q (.ref f,[.ref x]) s):
  wpAny (model prog w) A (getMethod (.ref x) name pl) Q E s:=by
 obtain⟨od,J,hl⟩:=I.look;exact PySem.W.method_fn X J (PySem.W.plainGet_of hg).1 (PySem.W.plainGet_of hg).2 hf (beq_iff_eq.mp ht) (by show(PySem.W.lookIn name od).map (·.isSome)=some false;rw[hl,hv];rfl) h
theorem L_{ns:List Str}{Q:Unit->Shared->Prop}(X:K.In s.heap)(I:ni s.heap x dx C mA)
  (hs:PySem.W.findIn K (.ref C) "__setattr__"=some (some (.builtin "object.__setattr__"))) (hp:PySem.W.plainOver K C=true) (ht:PySem.W.takerIn K C name=some none) (hh:PySem.W.hasDictIn K C=true)
  (hw:PySem.Within mA ns) (hsz:ns.length<=sizeLine)
  (h:∀h',ni h' x dx C (λy=>if y=name then some v else mA y)->Heap.SameBut dx s.heap h'->Q () {s with heap:=h',toks:=s.toks+2}):
  wpAny (model prog w) A (setAttr (.ref x) name v) Q E s:=by
 obtain⟨od,J,hl⟩:=I.look;refine PySem.W.set_plain X J hs (PySem.W.osa_open (s:={s with toks:=s.toks+1}) (r:=none) X J hp ht λb=>?_);obtain⟨cd,hc,hd'⟩:=PySem.W.any_some hh;have hx:s.heap.get? x=some #[.ref C,some dx,.plain,#[]]:=I.obj;refine wpAny_bind (wpAny_pure (wpAny_bind (wpAny_bind (wpAny_loadPart hx (wpAny_bind (PySem.W.Looks.here (s:={s with toks:=s.toks+1}) (PySem.W.looks_clsIn X hc) ?_))))));rw[hd'];refine wpAny_pure (a:=some dx) (wpAny_bind (wpAny_pure (wpAny_bind ?_)));refine wpAny_nsSet1 (s:={s with toks:=s.toks+1}) I.ns λh' hn2 hs2=>?_;obtain⟨oD,esD,epD,hoD,hdD,hcD⟩:=hn2.count (PySem.Within.cons name v hw);refine wpAny_bind (wpAny_lookBehind hoD (by rw[hdD];exact pastItsLine_dict (X8 hcD (by rw[X2];lia))) ?_);exact wpAny_pure (h _ #[(hs2.2 _ (Ne.symm I.ne)).trans I.obj,hn2,I.ne] hs2)
def Ma{R:Result->Shared->Prop}{vs:List Value}(X:K.In s.heap)(hm:PySem.W.makesIn K C=true)
  (hi:PySem.W.findIn K (.ref C) "__init__"=some (some (.ref f))) (hf:PySem.W.typeIn K (.ref f)=some (.type "function"))
  (h:codeAny (model prog w) (A.under (.builtin "type.__call__" #[.ref C::vs,kw])) (.call (.ref f) #[.ref (s.heap.objs.size+1)::vs,kw]) (PySem.W.InitBack (s.heap.objs.size+1) R)
   {s with heap:=(s.heap.push PySem.W.emptyDict).push (PySem.W.instObj C s.heap.objs.size)}):
  codeAny (model prog w) A (.call (.ref C) #[vs,kw]) R s:=by
 obtain⟨hh,g,d,t,os⟩:=s;exact PySem.W.make_core (PySem.W.makes_of X hm) (PySem.W.looks_findIn X hi) (λself=>PySem.W.bind_fn X self hf) (.inl rfl) h
end
def aQ(f:Str)(v:V):List (Str×V)->List (Str×V)
 |[]=>[(f,v)]
 |(g,x)::r=>if g=f then(g,v)::r else(g,x)::aQ f v r
theorem uT(f g:Str)(v:V):∀fs:List (Str×V),(aQ f v fs).lookup g=if g=f then some v else fs.lookup g
 |[]=>by
  show List.lookup g [(f,v)]=_;by_cases h:g=f
  .have hb:(g==f)=true:=beq_iff_eq.mpr h;simp only[List.lookup,hb,if_pos h]
  .have hb:(g==f)=false:=beq_eq_false_iff_ne.mpr h;simp only[List.lookup,hb,if_neg h]
 |(k,x)::r=>by
  have ih:=uT f g v r;rw[show aQ f v ((k,x)::r)=(if k=f then(k,v)::r else(k,x)::aQ f v r)from rfl];by_cases hk:k=f
  .rw[if_pos hk];by_cases h:g=k
   .have hb:(g==k)=true:=beq_iff_eq.mpr h;simp only[List.lookup,hb,if_pos (h.trans hk)]
   .have hb:(g==k)=false:=beq_eq_false_iff_ne.mpr h;simp only[List.lookup,hb,if_neg (λe:g=f=>h (e.trans hk.symm))]
  .rw[if_neg hk];by_cases h:g=k
   .have hb:(g==k)=true:=beq_iff_eq.mpr h;simp only[List.lookup,hb,if_neg (λe:g=f=>hk (h.symm.trans e))]
   .have hb:(g==k)=false:=beq_eq_false_iff_ne.mpr h;simp only[List.lookup,hb];exact ih
theorem ym(f:Str)(v:V):∀fs:List (Str×V),f∈(aQ f v fs).map (·.1)/\∀g,g∈fs.map (·.1)->g∈(aQ f v fs).map (·.1)
 |[]=>#[by simp[aQ],λg h=>by simp at h]
 |(k,x)::r=>by
  obtain⟨i1,i2⟩:=ym f v r;rw[show aQ f v ((k,x)::r)=(if k=f then(k,v)::r else(k,x)::aQ f v r)from rfl];by_cases hk:k=f
  .rw[if_pos hk];subst hk;exact#[by simp,λg h=>by simpa using h]
  .rw[if_neg hk];refine#[?_,λg h=>?_]
   .rw[X7];exact X6 _ i1
   .rw[X7]at h ⊢;rcases X5.mp h with e|e
    .exact X5.mpr (.inl e)
    .exact X6 _ (i2 g e)
theorem D3(f:Str)(v:V):∀fs:List (Str×V),(aQ f v fs).length<=fs.length+1
 |[]=>by simp[aQ]
 |(k,x)::r=>by
  have ih:=D3 f v r;rw[show aQ f v ((k,x)::r)=(if k=f then(k,v)::r else(k,x)::aQ f v r)from rfl];by_cases hk:k=f
  .rw[if_pos hk,X2,X2];lia
  .rw[if_neg hk,X2,X2];lia
def e7.some_of{o:Option Value}(r:e7 (some v) o):∃u,o=some u/\RelV v u:=by
 cases o with|none=>exact(show False from r).elim|some u=>exact#[u,rfl,r]
def e7.none_of{o:Option Value}(r:e7 none o):o=none:=by
 cases o with|none=>rfl|some u=>exact(show False from r).elim
def Mb(r:RelV v u):PySem.W.handedIn u=true:=by
 cases v with|ay=>cases(show u=Value.none from r);rfl|bl b=>cases(show u=Value.bool b from r);rfl|int i=>obtain⟨t,e⟩:=(show ∃t,u=Value.int i t from r);cases e;rfl|str x=>obtain⟨t,e⟩:=(show ∃t,u=Value.str x t from r);cases e;rfl|d6 b=>obtain⟨t,e⟩:=(show ∃t,u=Value.bytes b t from r);cases e;rfl|flt b=>obtain⟨t,e⟩:=(show ∃t,u=Value.float b t from r);cases e;rfl|ref a=>cases(show u=Value.ref a from r);rfl|ty n=>cases(show u=Value.type n from r);rfl
section
variable{fs fs':List (Str×V)}
def yn(aJ:bY P w H h)(e:H a=some (.ins C dx fs)):∃mA,ni h a dx C mA/\(∀f,e7 (fs.lookup f) (mA f))/\PySem.Within mA (fs.map (·.1))/\fs.length<=1000/\H dx=some (.own a):=by
 obtain⟨d,z,ne,ob,mA,n,r,q⟩:=(show cu P w H h a (.ins C dx fs)from aJ a _ e)
 exact#[mA,#[ob,n,ne],r,q,z,d]
end
structure d9(K:ZX)(C:Addr):Prop where
 pg:PySem.W.plainGet K C Str.empty=true
 hd:PySem.W.hasDictIn K C=true
 po:PySem.W.plainOver K C=true
 sa:PySem.W.findIn K (.ref C) "__setattr__"=some (some (.builtin "object.__setattr__"))
def d9.get(c:d9 K C)(f:Str):PySem.W.plainGet K C f=true:=c.pg
def du(K:ZX)(C:Addr)(f:Str):Prop:=PySem.W.findIn K (.ref C) f=some none
def du.Mc{f:Str}(n:du K C f):PySem.W.takerIn K C f=some none:=by
 unfold PySem.W.takerIn;rw[show PySem.W.findIn K (.ref C) f=some none from n];rfl
structure Meth(K:ZX)(C:Addr)(m:Str)(f:Addr):Prop where
 at_:PySem.W.findIn K (.ref C) m=some (some (.ref f))
 fn:PySem.W.isFn K (.ref f)=true
 kp:PySem.W.keepIn K (.ref f)=true
section
variable{fs:List (Str×V)}{f:Str}{E:ZJ}
def Md{b:Bool}{Q:ZJ}(I:Inv X pins σ H s)(e:H a=some (.ins C dx fs))(c:d9 X.K C)(n:du X.K C f)(l:fs.lookup f=some v)
  (h:∀u s',Inv X pins σ H s'->RelV v u->Q u s'):wpAny (model X.prog X.w) A (getAttr (.ref a) f b) Q E s:=by
 obtain⟨mA,O,r,_,_,_⟩:=yn I.aJ e;obtain⟨u,hu,ru⟩:=e7.some_of (v:=v) (o:=mA f) (by rw[<-l];exact r f);exact get_map I.e8 O (c.get f) c.hd n hu (Mb ru) (h u _ (I.tok _) ru)
def D4{g:Addr}{pl:Sem Bool}{Q:Value×List Value->Shared->Prop}(I:Inv X pins σ H s)(e:H a=some (.ins C dx fs))(c:d9 X.K C)(k:Meth X.K C m g)(l:fs.lookup m=none)
  (h:Q (.ref g,[.ref a]) s):wpAny (model X.prog X.w) A (getMethod (.ref a) m pl) Q E s:=by
 obtain⟨mA,O,r,_,_,_⟩:=yn I.aJ e;have hn:mA m=none:=e7.none_of (by rw[<-l];exact r m);exact L9 I.e8 O (c.get m) k.at_ k.fn hn h
theorem Me{Q:Unit->Shared->Prop}(I:Inv X pins σ H s)(e:H a=some (.ins C dx fs))(c:d9 X.K C)(n:du X.K C f)(hl:fs.length<1000)(ry:RelV y u)
  (h:∀s',Inv X pins σ (upd H a (.ins C dx (aQ f y fs))) s'->Q () s'):wpAny (model X.prog X.w) A (setAttr (.ref a) f u) Q E s:=by
 obtain⟨mA,O,r,wi,_,ho⟩:=yn I.aJ e;have hz:(fs.map (·.1)).length<=sizeLine:=by rw[XX,sizeLine_eq];lia
 refine L_ I.e8 O c.sa c.po n.Mc c.hd wi hz λh' O' sb=>h _ ?_;have hd:∃o,h'.get? dx=some o:=let⟨o,_,_,e',_⟩:=O'.ns;#[o,e'];refine I.write (x:=a) (e:=dx) (by rw[e];exact True.intro) (.inr ho) (λb q hb z=>(sb.2 b hb).trans z) hd ?_;refine#[by rw[ae O.ne];exact ho,?_,O.ne,O'.obj,_,O'.ns,λg=>?_,λg hg=>?_]
 .have:=D3 f y fs;lia
 .show e7 ((aQ f y fs).lookup g) (if g=f then some u else mA g);rw[uT];by_cases q:g=f
  .rw[if_pos q,if_pos q];exact ry
  .rw[if_neg q,if_neg q];exact r g
 .by_cases q:g=f
  .rw[q];exact(ym f y fs).1
  .refine(ym f y fs).2 g (wi g λz=>hg ?_);show(if g=f then some u else mA g)=none;rw[if_neg q];exact z
def Inv.made(I:Inv X pins σ H s):Inv X pins σ (upd (upd H s.heap.objs.size (.own (s.heap.objs.size+1))) (s.heap.objs.size+1) (.ins C s.heap.objs.size []))
  {s with heap:=(s.heap.push PySem.W.emptyDict).push (PySem.W.instObj C s.heap.objs.size)}:=by
 have e1:(s.heap.push PySem.W.emptyDict).get? s.heap.objs.size=some PySem.W.emptyDict:=Heap.get?_push_size s.heap rfl;have e2:((s.heap.push PySem.W.emptyDict).push (PySem.W.instObj C s.heap.objs.size)).get? (s.heap.objs.size+1)=some (PySem.W.instObj C s.heap.objs.size):=by
  have:=Heap.get?_push_size (s.heap.push PySem.W.emptyDict) (o:=PySem.W.instObj C s.heap.objs.size) rfl;rwa[Heap.size_push]at this
 have e3:(s.heap.push PySem.W.emptyDict).Ns s.heap.objs.size (λ_=>none):=#[PySem.W.emptyDict,#[],_,e1,rfl,(λe he=>absurd he (by simp)),λ_=>rfl]
 have I1:=I.laid (a:=s.heap.objs.size) (o:=.own (s.heap.objs.size+1)) (h':=s.heap.push PySem.W.emptyDict) (t':=s.toks) (λb u q=>Heap.get?_push_of_some _ q) (X0 _) #[_,e1];refine I1.laid (a:=s.heap.objs.size+1) (o:=.ins C s.heap.objs.size []) (t':=s.toks) (λb u q=>Heap.get?_push_of_some _ q) (aab (Heap.size_push _ _)) ?_;have ne:s.heap.objs.size≠s.heap.objs.size+1:=Yj (aat _);refine#[by rw[ae ne,ab],Yg _,ne,e2,λ_=>none,(Heap.Ns1.of_empty e3).at λo q=>Heap.get?_push_of_some _ q,λ_=>True.intro,λy hy=>absurd rfl hy]
def Mf{env:Env}{f:Str}{Q:ZJ}(hb:attributeBase e f env (eval e env)=eval e env)
  (h:wpAny (model prog w) A (eval e env) (λo s₁=>wpAny (model prog w) A (getAttr o f true) Q E s₁) E s):wpAny (model prog w) A (eval (.Attribute e f pos) env) Q E s:=
 Attribute_any_ h (by rw[arm_eval_Attribute,hb])
end
inductive Mg(K:ZX)(f:Str)(Q:VK)(x:V)(H1:Hp):Prop|mk(a C dx fs v:_)(_:x=.ref a)(_:H1 a=some (.ins C dx fs))(_:d9 K C)(_:du K C f)(_:fs.lookup f=some v)(_:Q v H1)
def D5(K:ZX)(ta:TE)(f:Str):TE:=λσ H Q=>ta σ H λx H1=>Mg K f Q x H1
inductive Mh(K:ZX)(f:Str)(D:Ends)(σ:St)(y:V)(x:V)(H2:Hp):Prop|mk(a C dx fs:_)(_:x=.ref a)(_:H2 a=some (.ins C dx fs))(_:d9 K C)(_:du K C f)(_:fs.length<1000)(_:D.nx σ (upd H2 a (.ins C dx (aQ f y fs))))
def Mi(K:ZX)(ta tv:TE)(f:Str):TS:=λD σ H=>tv σ H λy H1=>ta σ H1 λx H2=>Mh K f D σ y x H2
section
variable{o value:Expr}{f:Str}{tv:TE}
def Mj(he:PE X e ta)(hb:attributeBase e f X.env (eval e X.env)=eval e X.env):PE X (.Attribute e f pos) (D5 X.K ta f):=by
 intro pins s σ H Q I h;refine Mf hb (aN (he pins s σ H _ I h) λu s1 ⟨x,H1,I1,rx,a,C,dx,fs,v,ex,ea,c,n,l,q⟩=>?_);subst ex;obtain rfl:u=Value.ref a:=rx;exact Md I1 ea c n l λu' s2 I2 ru=>#[v,H1,I2,ru,q]
def cj(ha:PE X o ta)(hv:PE X value tv)(hs:swapsWith value (some (.Attribute o f pos')) pos.line X.env=pure false):PS X (.Assign [.Attribute o f pos'] value pos) (Mi X.K ta tv f):=by
 intro pins s σ H D I h;refine plainObj_wpAny_Assign_Attribute (aN (hv pins s σ H _ I h) λu s1 ⟨y,H1,I1,ry,q⟩=>aN (ha pins s1 σ H1 _ I1 q) λov s2 ⟨x,H2,I2,rx,a,C,dx,fs,ex,ea,c,n,l,q2⟩=>?_) hs;subst ex;obtain rfl:ov=Value.ref a:=rx;exact Me I2 ea c n l ry λs3 I3=>#[σ,_,I3,q2]
end
section
variable{E:ZJ}{Q:ZJ}{c:Value}{b:Bool}
end
structure bR(k:Nat)(A:Around):Prop where
 hd:A.handled=none
 dp:A.depth+3*k+5<recursionLimit
 un:A.units+16*k+200<cLine
theorem bR.mono(r:bR k A)(h:j<=k):bR j A:=#[r.hd,by have:=r.dp;lia,by have:=r.un;lia]
theorem bR.deeper(r:bR (k+1) A)(env:Env):bR k (A.deeper env):=
 #[r.hd,by have:=r.dp;show A.depth+1+3*k+5<_;lia,by have:=r.un;show A.units+3+16*k+200<_;lia]
theorem bR.in1(r:bR (k+1) A):bR k A.in1:=
 #[r.hd,by have:=r.dp;show A.depth+3*k+5<_;lia,by have:=r.un;show A.units+1+16*k+200<_;lia]
def Ml:(A.under (.builtin "type.__call__" #[.ref C::us,kw])).depth=A.depth+1:=by
 first|rfl|simp[Around.under,Code.weight,Code.isCreation,Code.isGuard,Code.isCaller,Code.frames,Code.isFrame,guardIds]
def Mm:(A.under (.builtin "type.__call__" #[.ref C::us,kw])).units=A.units+1:=by
 first|rfl|simp[Around.under,Code.cUnits,Code.frames,Code.isFrame]
theorem bR.make(r:bR (k+1) A)(C:Addr)(us:List Value)(kw:List (Str×Value)):bR k (A.under (.builtin "type.__call__" #[.ref C::us,kw])):=
 #[r.hd,by have:=r.dp;rw[Ml];lia,by have:=r.un;rw[Mm];lia]
theorem bR.depth(r:bR k A):A.depth<recursionLimit:=by have:=r.dp;lia
theorem bR.units(r:bR k A):A.units+64<cLine:=by have:=r.un;lia
def jb:TA:=λ_ H Q=>Q [] H
def lZ(ta:TE)(tr:TA):TA:=λσ H Q=>ta σ H λx H1=>tr σ H1 λxs H2=>Q (x::xs) H2
section
variable{t:TA}
def eQ:PA X [] jb:=λ_ _ _ _ H Q I h=>Calls.spliced_nil #[[],H,I,.nil,h]
def bC(ha:PE X e te)(hr:PA X es t)(hs:starEach (e::es) X.env=(false,eval e X.env)::starEach es X.env:=by rfl):PA X (e::es) (lZ te t):=by
 intro pos pins s σ H Q I h;rw[hs];show wpAny _ _ (spliced ((false,eval e X.env)::backTo pos (starEach es X.env))) _ _ s;refine Calls.spliced_cons (aN (ha pins s σ H _ I h) λu s1 ⟨x,H1,I1,r1,q1⟩=>?_);exact aN (hr pos pins s1 σ H1 _ I1 q1) λus s2 ⟨xs,H2,I2,r2,q2⟩=>#[x::xs,H2,I2,.cons r1 r2,q2]
def D6(t:TA):TE:=λσ H Q=>t σ H λxs H1=>xs.length<=sizeLine/\∀p,H1 p=none->Q (.ref p) (upd H1 p (.tup xs))
def Mn(t:TA):TE:=λσ H Q=>t σ H λxs H1=>xs.length<=sizeLine/\∀p,H1 p=none->Q (.ref p) (upd H1 p (.lst xs))
def cU{x1}(h:PA X es t):PE X (.Tuple es x1 pos) (D6 t):=by
 intro pins s σ H Q I hq;refine wpAny_Tuple_spliced (aN (h pos pins s σ H _ I hq) λus s1 ⟨xs,H1,I1,r,z,q⟩=>#[by rw[<-r.length];exact z,?_]);have hf:H1 s1.heap.objs.size=none:=I1.aJ.fresh (X0 _);refine#[.ref s1.heap.objs.size,upd H1 s1.heap.objs.size (.tup xs),I1.laid (t':=s1.toks) (λb u e=>Heap.get?_push_of_some _ e) (X0 _) ?_,rfl,q _ hf];exact#[z,us,r,#[_,Heap.get?_push_size _ rfl,rfl,_,rfl]]
def aV(h:PA X es t):PE X (.List es pos) (Mn t):=by
 intro pins s σ H Q I hq;refine wpAny_List_spliced (aN (h pos pins s σ H _ I hq) λus s1 ⟨xs,H1,I1,r,z,q⟩=>#[by rw[<-r.length];exact z,?_]);have hf:H1 s1.heap.objs.size=none:=I1.aJ.fresh (X0 _);refine#[.ref s1.heap.objs.size,upd H1 s1.heap.objs.size (.lst xs),I1.laid (t':=s1.toks) (λb u e=>Heap.get?_push_of_some _ e) (X0 _) ?_,rfl,q _ hf];exact#[z,us,0,r,Heap.get?_push_size _ rfl]
end
abbrev Sp:=List V->Hp->VK->XK->Prop
abbrev lU:=List Env->Hp->Shared->XK->Value->Shared->Prop
structure nj(P:Program)(w:World)(K:ZX)(mg:ZQ)(base:Heap)(A:Around)(outer:List Env)(s:Shared)(H:Hp):Prop where
 frames:A.frames=some outer
 mod:Mod K mg base
 bs:∀b o,base.get? b=some o->s.heap.get? b=some o/\H b=none
 iF:base.objs.size<=s.heap.objs.size
 gR:s.heap.FunFrames base outer
 lV:∀b∈i9 outer,H b=none
 aJ:bY P w H s.heap
 bare:AllBare s.gens
inductive CE(outer:List Env)(P:Program)(w:World)(H:Hp)(s:Shared)(Q:VK)(u:Value)(s':Shared):Prop|mk(v H':_)(_:s'.os=s.os)(_:AllBare s'.gens)(_:Un (i9 outer) [] H H' s.heap s'.heap)(_:bY P w H' s'.heap)(_:RelV v u)(_:Q v H')
def CR(CX:lU)(outer:List Env)(P:Program)(w:World)(H:Hp)(s:Shared)(Q:VK)(E:XK)(r:Result)(s':Shared):Prop:=
 match r with
 |.ok (.ret u)=>CE outer P w H s Q u s'
 |.ok _=>False
 |.error e=>CX outer H s E e s'
structure eR(P:Program)(w:World)(K:ZX)(mg:ZQ)(base:Heap)(CX:lU)(k:Nat)(f:Addr)(fd:FuncData)(ps:List Str)(sp:Sp):Prop where
 len:∀vs H Q E,sp vs H Q E->vs.length=ps.length
 run:∀(A:Around) (outer:List Env) (s:Shared) (H:Hp) (args:Args) (us:List Value) (vs:List V) (Q:VK) (E:XK),bR k A->nj P w K mg base A outer s H->BindsTo s fd args (ps.zip us)->Vals vs us->sp vs H Q E->
  codeAny (model P w) A (.call (.ref f) args) (CR CX outer P w H s Q E) s
def nj.make(e:nj P w K mg base A outer s H)(C:Addr)(us:List Value)(kw:List (Str×Value)):
  nj P w K mg base (A.under (.builtin "type.__call__" #[.ref C::us,kw])) outer s H:=#[by first|exact e.frames|(simpa[Around.under,Code.envs,Code.isFrame,pushEnvs]using e.frames),e.mod,e.bs,e.iF,e.gR,e.lV,e.aJ,e.bare]
def Inv.D7(I:Inv X pins σ H s):nj X.prog X.w X.K X.mg X.base X.A X.stack s H:=
 #[I.ok.frames,I.ok.mod,I.bs,X8 I.ok.iF I.sz,I.stack,I.xW,I.aJ,I.bare]
def Inv.after(I:Inv X pins σ H s)(h:CE X.stack X.prog X.w H s Q u s'):EP X pins σ Q u s':=by
 obtain⟨v,H',os,bare,un,aJ,r,q⟩:=h;obtain⟨hh,g,d,t,os'⟩:=s';obtain rfl:os'=s.os:=os;exact#[v,H',I.call (h':=hh) (g':=g) (d':=d) (t':=t) (ch:=[]) un aJ bare (λb z=>absurd z (by simp)),r,q]
def uU(sp:Sp)(cP:List V)(E:XK)(t:TA):TE:=λσ H Q=>t σ H λvs H1=>sp (vs++cP) H1 Q E
inductive Mo(C:Addr)(m:Str)(sp:Sp)(cP:List V)(E:XK)(t:TA)(σ:St)(Q:VK)(x:V)(H1:Hp):Prop|mk(a dx fs:_)(_:x=.ref a)(_:H1 a=some (.ins C dx fs))(_:fs.lookup m=none)(_:t σ H1 λvs H2=>sp (x::(vs++cP)) H2 Q E)
def uV(C:Addr)(m:Str)(sp:Sp)(cP:List V)(E:XK)(ta:TE)(t:TA):TE:=λσ H Q=>ta σ H λx H1=>Mo C m sp cP E t σ Q x H1
def uW(C:Addr)(sp:Sp)(cP:List V)(E:XK)(t:TA):TE:=λσ H Q=>t σ H λvs H1=>∀x dx,H1 x=none->H1 dx=none->dx≠x->
 sp (.ref x::(vs++cP)) (upd (upd H1 dx (.own x)) x (.ins C dx [])) (λv H2=>v=.ay/\Q (.ref x) H2) E
def Binds(K:ZX)(fd:FuncData)(ps:List Str)(ds:List Value):Prop:=
 ∀(s:Shared) (us:List Value),K.In s.heap->(us++ds).length=ps.length->BindsTo s fd #[us,[]] (ps.zip (us++ds))
def Binds.all(h:∀us:List Value,us.length=ps.length->bindArgs fd #[us,[]]=pure (ps.zip us)):Binds K fd ps []:=λs us _ hl=>by
 rw[YC]at hl ⊢;exact .of_eq (h us hl)
def Passes(CX:lU)(X:Cx)(E:XK):Prop:=∀(pins:ZZ) (σ:St) (H:Hp) (s:Shared) (e:Value) (s':Shared),Inv X pins σ H s->CX X.stack H s E e s'->X.xe e s'
section
variable{cP:List V}{ds:List Value}{x:Str}{o:Expr}{t:TA}
def uX(F:eR X.prog X.w X.K X.mg X.base CX k f fd ps sp)(hr:bR k X.A)(hb:Binds X.K fd ps ds)(hd:Vals cP ds)(hx:Passes CX X E)
  (I:Inv X pins σ H s) (r:Vals vs us) (h:sp (vs++cP) H Q E):wpAny (model X.prog X.w) X.A (call (.ref f) us) (EP X pins σ Q) X.xe s:=by
 have r2:Vals (vs++cP) (us++ds):=r.append hd;have hl:(us++ds).length=ps.length:=by rw[<-r2.length];exact F.len _ _ _ _ h
 refine wpAny_call (codeAny_mono (F.run X.A X.stack s H #[us,[]] (us++ds) (vs++cP) Q E hr I.D7 (hb s us I.e8 hl) r2 h) λr s' hq=>?_);cases r with|error e=>exact hx pins σ H s e s' I hq|ok fl=>
  cases fl with|ret u=>exact I.after hq|next=>exact False.elim hq|brk=>exact False.elim hq|cont=>exact False.elim hq
def Mp(F:eR X.prog X.w X.K X.mg X.base CX k f fd ps sp)(hr:bR k X.A)(hg:Gl X x)(hm:X.mg x=some (.ref f))(hk:PySem.W.keepIn X.K (.ref f)=true)(hb:Binds X.K fd ps ds)(hd:Vals cP ds)(hx:Passes CX X E)
  (ha:PA X (e::es) t) (hdb:(x==("__debug__":Str))=false:=by decide) (he:starEach (e::es) X.env=(false,eval e X.env)::starEach es X.env:=by rfl) (hpl:(backTo pos (starEach es X.env)).any (·.1)=false:=by rfl):
  PE X (.Call (.Name x p) (e::es) [] pos) (uU sp cP E t):=by
 intro pins s σ H Q I h;refine wpAny_Call_Name_kw (rm I hg hm ?_ hdb);refine PySem.W.callWith_K (h₀:=X.base) I.ok.mod.rh hk (aN (ha pos pins s σ H _ I h) λus s1 ⟨vs,H1,I1,r,q⟩=>#[I1.e8,?_]) he hpl;exact uX F hr hb hd hx I1 r q
def Mq(F:eR X.prog X.w X.K X.mg X.base CX k f fd ps sp)(hr:bR k X.A)(hg:Gl X x)(hm:X.mg x=some (.ref f))(hk:PySem.W.keepIn X.K (.ref f)=true)(hb:Binds X.K fd ps ds)(hd:Vals cP ds)(hx:Passes CX X E)
  (hdb:(x==("__debug__":Str))=false:=by decide):PE X (.Call (.Name x p) [] [] pos) (uU sp cP E jb):=by
 intro pins s σ H Q I h;refine wpAny_Call_Name_kw (rm I hg hm ?_ hdb);exact PySem.W.callWith_K0 I.e8 hk (uX (us:=[]) F hr hb hd hx I .nil h)
def Mr{pl:Sem Bool}(he:PE X o ta)(c:d9 X.K C)(hm:Meth X.K C m f)(F:eR X.prog X.w X.K X.mg X.base CX k f fd ps sp)(hr:bR k X.A)(hb:Binds X.K fd ps ds)(hd:Vals cP ds)(hx:Passes CX X E)(ha:PA X (e::es) t)
  (hst:starEach (e::es) X.env=(false,eval e X.env)::starEach es X.env:=by rfl) (hpl:(backTo pos (starEach es X.env)).any (·.1)=false:=by rfl)
  (ht:eval (.Call (.Attribute o m apos) (e::es) [] pos) X.env=(do
   let ov<-eval o X.env
   standAt apos.atName
   let(f,first)<-holding [ov] (getMethod ov m pl)
   callWith pos f first (backTo pos (starEach (e::es) X.env)) (backToKw pos (keywordEach [] X.env))):=by rfl):
  PE X (.Call (.Attribute o m apos) (e::es) [] pos) (uV C m sp cP E ta t):=by
 intro pins s σ H Q I h;refine PySem.W.methodCall_KW (pl:=pl) (aN (he pins s σ H _ I h) λu s1 ⟨x,H1,I1,rx,a,dx,fs,ex,ea,l,q⟩=>?_) ht;subst ex;obtain rfl:u=Value.ref a:=rx;refine D4 I1 ea c hm l ?_;refine PySem.W.callWith_K (first:=[.ref a]) (h₀:=X.base) I.ok.mod.rh hm.kp (aN (ha pos pins s1 σ H1 _ I1 q) λus s2 ⟨vs,H2,I2,r,q2⟩=>#[I2.e8,?_]) hst hpl;exact uX (us:=.ref a::us) (vs:=.ref a::vs) F hr hb hd hx I2 (.cons rfl r) q2
def Ms{pl:Sem Bool}(he:PE X o ta)(c:d9 X.K C)(hm:Meth X.K C m f)(F:eR X.prog X.w X.K X.mg X.base CX k f fd ps sp)(hr:bR k X.A)(hb:Binds X.K fd ps ds)(hd:Vals cP ds)(hx:Passes CX X E)
  (ht:eval (.Call (.Attribute o m apos) [] [] pos) X.env=(do
   let ov<-eval o X.env
   standAt apos.atName
   let(f,first)<-holding [ov] (getMethod ov m pl)
   callWith pos f first (backTo pos (starEach [] X.env)) (backToKw pos (keywordEach [] X.env))):=by rfl):
  PE X (.Call (.Attribute o m apos) [] [] pos) (uV C m sp cP E ta jb):=by
 intro pins s σ H Q I h;refine PySem.W.methodCall_KW (pl:=pl) (aN (he pins s σ H _ I h) λu s1 ⟨x,H1,I1,rx,a,dx,fs,ex,ea,l,q⟩=>?_) ht;subst ex;obtain rfl:u=Value.ref a:=rx;refine D4 I1 ea c hm l ?_;exact PySem.W.callWith_K0 (first:=[.ref a]) I1.e8 hm.kp (uX (us:=[.ref a]) (vs:=[.ref a]) F hr hb hd hx I1 (.cons rfl .nil) q)
structure Mk(K:ZX)(C f:Addr):Prop where
 makes:PySem.W.makesIn K C=true
 init:PySem.W.findIn K (.ref C) "__init__"=some (some (.ref f))
 fn:PySem.W.isFn K (.ref f)=true
 kp:PySem.W.keepIn K (.ref C)=true
def D8(M:Mk X.K C f)(F:eR X.prog X.w X.K X.mg X.base CX k f fd ps sp)(hr:bR (k+1) X.A)(hb:Binds X.K fd ps ds)(hd:Vals cP ds)
  (hx:Passes CX X E) (I:Inv X pins σ H s) (r:Vals vs us)
  (h:∀x dx,H x=none->H dx=none->dx≠x->sp (.ref x::(vs++cP)) (upd (upd H dx (.own x)) x (.ins C dx [])) (λv H2=>v=.ay/\Q (.ref x) H2) E):
  wpAny (model X.prog X.w) X.A (call (.ref C) us) (EP X pins σ Q) X.xe s:=by
 have hq:=h (s.heap.objs.size+1) s.heap.objs.size (I.aJ.fresh (aaG _)) (I.aJ.fresh (X0 _)) (Yj (aat _));have I2:=Inv.made (C:=C) I;have r2:Vals (V.ref (s.heap.objs.size+1)::(vs++cP)) (Value.ref (s.heap.objs.size+1)::(us++ds)):=.cons rfl (r.append hd);have hl:(Value.ref (s.heap.objs.size+1)::us++ds).length=ps.length:=by
  have e:=r2.length;rw[F.len _ _ _ _ hq]at e;exact e.symm
 refine wpAny_call (Ma (f:=f) I.e8 M.makes M.init (beq_iff_eq.mp M.fn) (codeAny_mono (F.run _ X.stack _ _ #[Value.ref (s.heap.objs.size+1)::us,[]] (Value.ref (s.heap.objs.size+1)::(us++ds)) _ _ E (hr.make C us [])
  (I2.D7.make C us []) (hb _ (Value.ref (s.heap.objs.size+1)::us) I2.e8 hl) r2 hq) λr s' hq'=>?_))
 cases r with|error e=>exact hx pins σ _ _ e s' I2 hq'|ok fl=>
  cases fl with
  |ret u=>
   obtain⟨v,H',I3,rv,ev,q3⟩:=I2.after hq';subst ev;exact#[rv,#[V.ref (s.heap.objs.size+1),H',I3,rfl,q3]]
  |next=>exact False.elim hq'
  |brk=>exact False.elim hq'
  |cont=>exact False.elim hq'
def Mt(M:Mk X.K C f)(F:eR X.prog X.w X.K X.mg X.base CX k f fd ps sp)(hr:bR (k+1) X.A)(hg:Gl X x)(hm:X.mg x=some (.ref C))(hb:Binds X.K fd ps ds)(hd:Vals cP ds)(hx:Passes CX X E)
  (ha:PA X (e::es) t) (hdb:(x==("__debug__":Str))=false:=by decide) (he:starEach (e::es) X.env=(false,eval e X.env)::starEach es X.env:=by rfl) (hpl:(backTo pos (starEach es X.env)).any (·.1)=false:=by rfl):
  PE X (.Call (.Name x p) (e::es) [] pos) (uW C sp cP E t):=by
 intro pins s σ H Q I h;refine wpAny_Call_Name_kw (rm I hg hm ?_ hdb);refine PySem.W.callWith_K (h₀:=X.base) I.ok.mod.rh M.kp (aN (ha pos pins s σ H _ I h) λus s1 ⟨vs,H1,I1,r,q⟩=>#[I1.e8,?_]) he hpl;exact D8 M F hr hb hd hx I1 r q
def Mu(M:Mk X.K C f)(F:eR X.prog X.w X.K X.mg X.base CX k f fd ps sp)(hr:bR (k+1) X.A)(hg:Gl X x)(hm:X.mg x=some (.ref C))(hb:Binds X.K fd ps ds)(hd:Vals cP ds)(hx:Passes CX X E)
  (hdb:(x==("__debug__":Str))=false:=by decide):PE X (.Call (.Name x p) [] [] pos) (uW C sp cP E jb):=by
 intro pins s σ H Q I h;refine wpAny_Call_Name_kw (rm I hg hm ?_ hdb);exact PySem.W.callWith_K0 I.e8 M.kp (D8 (us:=[]) M F hr hb hd hx I .nil h)
end
section
variable{ks:List Str}{x:Str}{kpos:Pos}{o:Expr}{kws:List Keyword}{t tk:TA}{nm:Option Str}
variable{g:List Value->List Value->List Value}{gV:List V->List V->List V}
end
structure jc(N P:List Str)(sc:Scope):Prop where
 kind:sc.kind=.function
 co:sc.isCoroutine=false
 gen:sc.isGenerator=false
 nd:N.Nodup
 pre:N.take P.length=P
 par:∀x∈P,sc.names.lookup x=some .local\/sc.names.lookup x=some .cell
 Mv:∀y∈sc.names,y.2≠.free
theorem D9{x:Str}:∀ {binds:List (Str×Value)} {m:ZQ},(∀v,(x,v)∉binds)->bindL kindOf binds m x=m x
 |[],_,_=>rfl
 |(n,v)::r,m,h=>by
  unfold bindL;rw[D9 λw hw=>h w (X6 _ hw)];split
  .have:x≠n:=by rintro rfl;exact h v Ym
   simp[this]
  .rfl
theorem D_{x:Str}:∀ {binds:List (Str×Value)} {m:ZQ},(∀v,(x,v)∉binds)->bindC kindOf binds m x=m x
 |[],_,_=>rfl
 |(n,v)::r,m,h=>by
  unfold bindC;rw[D_ λw hw=>h w (X6 _ hw)];split
  .rfl
  .have:x≠n:=by rintro rfl;exact h v Ym
   simp[this]
theorem Ea{x:Str}{v:Value}:∀ {P:List Str} {vs:List Value} {i:Nat} {m:ZQ},P.Nodup->P[i]?=some x->vs[i]?=some v->kindOf x=some .local->
  bindL kindOf (P.zip vs) m x=some v
 |[],_,_,_,_,h,_,_=>by simp at h
 |_::_,[],_,_,_,_,h,_=>by simp at h
 |p::P,w::vs,0,m,nd,h1,h2,hk=>by
  simp at h1 h2;subst h1;subst h2;show bindL kindOf ((p,w)::P.zip vs) m p=_;unfold bindL;rw[D9 λv hv=>(Y5.mp nd).1 (aaE hv).1,if_pos hk];simp
 |p::P,w::vs,i+1,m,nd,h1,h2,hk=>by
  show bindL kindOf ((p,w)::P.zip vs) m x=_;unfold bindL;exact Ea (i:=i) (Y5.mp nd).2 (by simpa using h1) (by simpa using h2) hk
theorem Eb{x:Str}{v:Value}:∀ {P:List Str} {vs:List Value} {i:Nat} {m:ZQ},P.Nodup->P[i]?=some x->vs[i]?=some v->kindOf x≠some .local->
  bindC kindOf (P.zip vs) m x=some v
 |[],_,_,_,_,h,_,_=>by simp at h
 |_::_,[],_,_,_,_,h,_=>by simp at h
 |p::P,w::vs,0,m,nd,h1,h2,hk=>by
  simp at h1 h2;subst h1;subst h2;show bindC kindOf ((p,w)::P.zip vs) m p=_;unfold bindC;rw[D_ λv hv=>(Y5.mp nd).1 (aaE hv).1,if_neg hk];simp
 |p::P,w::vs,i+1,m,nd,h1,h2,hk=>by
  show bindC kindOf ((p,w)::P.zip vs) m x=_;unfold bindC;exact Eb (i:=i) (Y5.mp nd).2 (by simpa using h1) (by simpa using h2) hk
def start(N:List Str)(vs:List V):St:=vs.map some++List.replicate (N.length-vs.length) none
noncomputable def jd(CX:lU)(P:Program)(w:World)(K:ZX)(mg:ZQ)(base:Heap)(N:List Str)(qual:Str)(scope:Scope)(f:Addr)(cd:Value)(A:Around)(outer:List Env)(s:Shared)(H:Hp)(E:XK):Cx where
 prog:=P
 w:=w
 K:=K
 mg:=mg
 base:=base
 A:=A.deeper (envOfC qual scope s.heap.objs.size f cd)
 N:=N
 dm:=s
 oY:=H
 env:=envOfC qual scope s.heap.objs.size f cd
 outer:=outer
 stack:=envOfC qual scope s.heap.objs.size f cd::outer
 ex:=[]
 calm:=true
 fn:=λ_=>true
 pn:=[]
 xe:=λe s'=>wpAny (model P w) (A.deeper (envOfC qual scope s.heap.objs.size f cd)) (leaving (envOfC qual scope s.heap.objs.size f cd) e) (λ_ s''=>CX outer H s E e s'') (λe' s''=>CX outer H s E e' s'') s'
def Ec{sc:Scope}{x:Str}(h:sc.names.lookup x=some .cell):∃c,(cellsFrom n sc.names []).lookup x=some c:=by
 have q:=PySem.W.cellsFrom_some sc.names n [] (.inl h);exact aau.mp q
theorem Mw{cd:Value}{s1:Shared}
  (S:jc N ps scope) (hd:A.handled=none) (e0:nj P w K mg base A outer s H) (hl:vs.length=ps.length) (r:Vals vs us)
  (x:InCallC s s.heap.objs.size (bindL (envOfC qual scope s.heap.objs.size f cd).kindOf (ps.zip us) λ_=>none) (cellsFrom (s.heap.objs.size+1) scope.names []) (bindC (envOfC qual scope s.heap.objs.size f cd).kindOf (ps.zip us) λ_=>none) s1):
  Inv (jd CX P w K mg base N qual scope f cd A outer s H E) [] (start N vs) H s1:=by
 have hpl:ps.length<=N.length:=by have:=congrArg List.length S.pre;rw[YF]at this;lia
 obtain⟨h1,tk,rfl,hk⟩:=x.done;have yo:∀b:Addr,b∉(jd CX P w K mg base N qual scope f cd A outer s H E).ex:=λb z=>absurd (show b∈([]:List Addr)from z) (by simp);refine#[#[e0.mod,S.kind,rfl,rfl,X0 _,λy z c h1 h2=>?_,λy hy=>?_,λy c _ h=>?_,λ_=>hd,Around.frames_deeper e0.frames,.inr #[rfl,rfl],λb z=>absurd z (yo b),e0.bs,e0.iF,λb _ _=>yo b,λb z=>absurd z (yo b),e0.gR,e0.lV],
  rfl,e0.bare,Un.kept hk,#[_,x.toInCall.ns,λi y v h1 h2 h3=>?_],λy c h=>#[_,x.cell y c h],e0.aJ.fresh (X0 _),λy c h=>?_,λp hp=>absurd (show p∈([]:ZZ)from hp) (by simp),e0.aJ.kept hk,?_]
 .exact name_of_addr x.apart (PySem.mem_of_lookup h1) (PySem.mem_of_lookup h2)
 .have hy:scope.names.lookup y=some .cell\/scope.names.lookup y=some .free:=hy;rcases hy with hy|hy
  .exact Ec hy
  .exact absurd rfl (S.Mv _ (PySem.mem_of_lookup hy))
 .exact ZT (x.above y c (PySem.mem_of_lookup h))
 .have hi:i<vs.length:=by
   unfold start at h2;by_cases hi:i<vs.length
   .exact hi
   .rw[YH (by simpa using hi)]at h2;rw[Y2]at h2;split at h2<;>cases h2
  have ha:vs[i]?=some v:=by
   unfold start at h2;rw[Zd (by simpa using hi),X1]at h2;cases e:vs[i]? with|none=>rw[e]at h2;cases h2|some a=>rw[e]at h2;cases h2;rfl
  obtain⟨u,hu,rv⟩:=r.get ha;have hp:ps[i]?=some y:=by
   rw[<-S.pre,aav (by lia)];exact h1
  have Ed:ps.Nodup:=by rw[<-S.pre];exact S.nd.sublist (List.take_sublist _ _)
  refine#[u,rv,?_];rcases S.par y (X_ hp)with k|k
  .exact .inl #[k,Ea Ed hp hu k]
  .obtain⟨c,e⟩:=Ec (n:=s.heap.objs.size+1) k;refine .inr #[.inl k,c,e,?_];have q:=x.cell y c e;rw[Eb Ed hp hu (by show scope.names.lookup y≠_;rw[k];decide)]at q;exact q
 .exact e0.aJ.fresh (ZT (x.above y c (PySem.mem_of_lookup h)))
 .unfold start;show _=N.length;rw[XY,XX,Z_]
  lia
def Ee{params:Arguments}{dV kV doc pm cdv ct oc:Value}{an od:Option Addr}
  {osl:Array (Option Value)} {N ps:List Str} {sp:Sp} (lk:K.lookup f=some #[oc,od,.func (PySem.W.fnOf name qual params body scope dV kV doc pm an cdv ct),osl]) (hcd:PySem.W.codeIn K cdv qual=true) (S:jc N ps scope)
  (len:∀vs H Q E,sp vs H Q E->vs.length=ps.length)
  (hbody:∀(A:Around) (outer:List Env) (s:Shared) (H:Hp) (vs:List V) (Q:VK) (E:XK),bR k (A.deeper (envOfC qual scope s.heap.objs.size f cdv))->sp vs H Q E->
   ∃t,dJ (jd CX P w K mg base N qual scope f cdv A outer s H E) body t/\t {nx:=λ_ H'=>Q .ay H',rt:=Q} (start N vs) H):
  eR P w K mg base CX (k+1) f (PySem.W.fnOf name qual params body scope dV kV doc pm an cdv ct) ps sp:=by
 refine#[len,λA outer s H args us vs Q E hr e0 hb r hsp=>?_];have hl:=len _ _ _ _ hsp;have KX:K.In s.heap:=e0.mod.rh.keeps λb o e=>(e0.bs b o e).1;have lim:s.heap.NoLimit:=e0.mod.nolimit.keeps λb o e=>(e0.bs b o e).1;have hkind:∀y∈ps.zip us,scope.names.lookup y.1=some .local\/(scope.names.lookup y.1=some .cell/\((cellsFrom (s.heap.objs.size+1) scope.names []).lookup y.1).isSome=true):=λ⟨n,v⟩ hy=>by
  rcases S.par n (aaE hy).1 with q|q
  .exact .inl q
  .exact .inr #[q,PySem.W.cellsFrom_some _ _ _ (.inl q)]
 refine codeAny_call_function hr.depth (KX _ _ lk) rfl S.co S.gen rfl (PySem.W.codeRec_of KX hcd) (hb _ _ _ _ ?_);refine wpAny_newFunctionEnv_cells S.kind hkind λenv he s1 x=>?_;subst he;refine#[lim.keeps x.toInCall.keep,codeAny_func ?_];obtain⟨t,ht,hq⟩:=hbody A outer s H vs Q E (hr.deeper _) hsp;have I:Inv (jd CX P w K mg base N qual scope f cdv A outer s H E) [] (start N vs) H s1:=Mw S hr.hd e0 hl r x;refine wpAny_mono (ht [] s1 (start N vs) H _ I hq) (λfl s' hs=>?_) λe s' hs=>hs;have fin:∀ {σ':St} {H':Hp} {v:V} {u:Value},Inv (jd CX P w K mg base N qual scope f cdv A outer s H E) [] σ' H' s'->RelV v u->Q v H'->CE outer P w H s Q u s':=
  λ{σ' H' v u} J rv q=>#[v,H',J.os,J.bare,J.base,J.aJ,rv,q]
 cases fl with
 |ret u=>
  obtain⟨v,σ',H',J,rv,q⟩:=hs;exact fin J rv q
 |next=>
  obtain⟨σ',H',J,q⟩:=hs;exact fin (v:=V.ay) (u:=Value.none) J rfl q
 |brk=>
  obtain⟨_,_,_,q⟩:=hs;exact False.elim q
 |cont=>
  obtain⟨_,_,_,q⟩:=hs;exact False.elim q
section
variable{x:Str}{t:TA}{id T:String}{r:List V->Hp->VK->Prop}
def yq(r:List V->Hp->VK->Prop)(t:TA):TE:=λσ H Q=>t σ H λvs H1=>r vs H1 Q
def kG(hc:gU X (.builtin id) r)(hg:Gl X x)(hm:X.mg x=none)(hv:bootBuiltins x=some (.builtin id))(ha:PA X (e::es) t)(hn:x≠"__name__":=by decide)(hdb:(x==("__debug__":Str))=false:=by decide)
  (he:starEach (e::es) X.env=(false,eval e X.env)::starEach es X.env:=by rfl) (hpl:(backTo pos (starEach es X.env)).any (·.1)=false:=by rfl):PE X (.Call (.Name x p) (e::es) [] pos) (yq r t):=by
 intro pins s σ H Q I h;refine wpAny_Call_Name_kw (ja I hg hm hv ?_ hn hdb);exact PyProof.Rows.callWith_builtin1 (aN (ha pos pins s σ H _ I h) λus s1 ⟨vs,H1,I1,r1,q1⟩=>hc pins s1 σ H1 vs us Q I1 r1 q1) he hpl
def uY(hc:gU X (.type T) r)(hg:Gl X x)(hm:X.mg x=none)(hv:bootBuiltins x=some (.type T))(ha:PA X (e::es) t)(hn:x≠"__name__":=by decide)(hdb:(x==("__debug__":Str))=false:=by decide)
  (he:starEach (e::es) X.env=(false,eval e X.env)::starEach es X.env:=by rfl) (hpl:(backTo pos (starEach es X.env)).any (·.1)=false:=by rfl):PE X (.Call (.Name x p) (e::es) [] pos) (yq r t):=by
 intro pins s σ H Q I h;refine wpAny_Call_Name_kw (ja I hg hm hv ?_ hn hdb);exact PyProof.Rows.callWith_type1 (aN (ha pos pins s σ H _ I h) λus s1 ⟨vs,H1,I1,r1,q1⟩=>hc pins s1 σ H1 vs us Q I1 r1 q1) he hpl
end
end L2
namespace HT
open PySem PyProof.Rows
variable{items:Array Value}{sl:Addr}{vl vu:Value}{hi lo:Option Int}
def lexLt:List Int->List Int->Bool
 |[],[]=>false
 |[],_::_=>true
 |_::_,[]=>false
 |x::xs,y::ys=>if x=y then lexLt xs ys else decide (x<y)
def Ef(x y:Int)(xs ys:List Int):lexLt (x::xs) (y::ys)=if x=y then lexLt xs ys else decide (x<y):=rfl
def Mx:lexLt [] []=false:=rfl
def My(y:Int)(ys:List Int):lexLt [] (y::ys)=true:=rfl
def Mz(x:Int)(xs:List Int):lexLt (x::xs) []=false:=rfl
def MA(A:Around)(s:Shared)(a:Int)(t:Tok)(c:Int)(u:Tok):∃e,SeqAt.EqAt A s (.int a t) (.int c u) e/\(e=true↔a=c):=
 #[(a==c),SeqAt.EqAt.int_int a t c u,by simp]
def MB(A:Around)(s:Shared)(a:Int)(t:Tok)(c:Int)(u:Tok)(prog:Program)(w:World)(E:ZJ)(Q:ZJ)(h:Q (.bool (decide (a<c))) s):
  wpAny (model prog w) A (richCompare .Lt (.int a t) (.int c u)) Q E s:=
 (PyProof.Rows.lt_int h:wpAny (model prog w) A (compareOp .Lt (.int a t) (.int c u)) Q E s)
section
open PySem.SeqAt
open PySem.AutoSeq1 (wpAny_loadPart')
open PySem.MeetsSeq PySem.MeetsSeq2 PySem.MeetsSeq3
theorem MC(l b:Addr)(items items2:Array Value)(n n2:Nat)(dd dd2:Option Addr)(sl sl2:Array (Option Value))(ns ms:List Int)(hi:IntsAre items.toList ns)(hj:IntsAre items2.toList ms):
  Meets (Builtin.«tuple.__lt__» #[[.ref l,.ref b],[]])
   (λ_ R s=>s.heap.get? l=some {cls:=.type "tuple",dict:=dd,data:=.seq items n,slots:=sl}/\s.heap.get? b=some {cls:=.type "tuple",dict:=dd2,data:=.seq items2 n2,slots:=sl2}/\
    R (.ok (.ret (.bool (lexLt ns ms)))) s):=
 .of_wp λprog w A R s h=>by
  obtain⟨hp,g,d,tk,os⟩:=s;obtain⟨hl,hb,h⟩:=h;have f2:=AutoSeq1.sub_tuple_tuple;have z1:items.size=ns.length:=by rw[<-hi.length];simp
  have z2:items2.size=ms.length:=by rw[<-hj.length];simp
  wp_walk using wpAny_loadPart' hl,wpAny_loadPart' hb,wpAny_forIn_list _ (λrest b s'=>b.1=none/\s'=#[hp,g,d,tk,os]/\lT λ(vs ws:List Value) (ns' o9:List Int)=>rest=vs.zip ws/\
   IntsAre vs ns'/\IntsAre ws o9/\ns'.length+items2.size=o9.length+items.size/\R (.ok (.ret (.bool (lexLt ns' o9)))) #[hp,g,d,tk,os]) _
  case turn=>
   rintro⟨y,x⟩ rest b s' ⟨hb',rfl,vs,ws,ns',o9,hz,yr,hwi,hlen,hR⟩;cases yr with|nil=>rw[List.zip_nil_left]at hz;cases hz|cons a t MD=>
    cases hwi with|nil=>rw[List.zip_nil_right]at hz;cases hz|cons c u ME=>
     rw[aal]at hz;injection hz with hyx hrest;injection hyx with hy hx;subst hy hx;rw[Ef]at hR;simp only[X2]at hlen;obtain⟨e,he,hiff⟩:=MA A.in1 #[hp,g,d,tk,os] a t c u;refine wpAny_bind (he prog w _ _ ?_);cases e with
     |true=>
      rw[if_pos (hiff.mp rfl)]at hR
      wp_walk
      exact#[rfl,rfl,_,_,_,_,hrest,MD,ME,by lia,hR]
     |false=>
      rw[if_neg (λq=>absurd (hiff.mpr q) X9)]at hR;have MF:=MB A.in1 #[hp,g,d,tk,os] a t c u prog w
      wp_walk using MF
      exact#[_,rfl,by simpa using hR]
  case fin=>
   rintro⟨b1,b2⟩ s' ⟨hb',rfl,vs,ws,ns',o9,hz,yr,hwi,hlen,hR⟩;simp only at hb';subst hb';have hv:lexLt ns' o9=decide (items.size<items2.size):=by
    cases yr with
    |nil=>
     cases hwi with
     |nil=>
      simp only[YD]at hlen;rw[Mx];exact(Yh (by lia)).symm
     |cons c u hw=>
      simp only[YD,X2]at hlen;rw[My];exact(Yc (by lia)).symm
    |cons a t hv=>
     cases hwi with
     |nil=>
      simp only[YD,X2]at hlen;rw[Mz];exact(Yh (by lia)).symm
     |cons c u hw=>
      rw[aal]at hz;cases hz
   rw[hv]at hR
   wp_walk
   exact#[_,rfl,by simpa[Builtin.Tuple.tupleCompareSizes]using hR]
  case h=>
   exact#[rfl,rfl,items.toList,items2.toList,ns,ms,rfl,hi,hj,by lia,h]
end
section
variable{prog:Program}{w:World}{A:Around}{E:ZJ}{s:Shared}
def MG{l b:Addr}{items2:Array Value}{ns ms:List Int}{Q:ZJ}(hl:IsTup s.heap l items)(hb:IsTup s.heap b items2)(hi:IntsAre items.toList ns)(hj:IntsAre items2.toList ms)
  (hu:A.units<cLine) (h:Q (.bool (lexLt ns ms)) s):wpAny (model prog w) A (compareOp .Lt (.ref l) (.ref b)) Q E s:=by
 obtain⟨⟨cls,dd,data,sl⟩,ho,hc,n,hd⟩:=id hl;obtain⟨⟨cls2,dd2,data2,sl2⟩,ho2,hc2,n2,hd2⟩:=id hb;simp only at hc hd hc2 hd2;subst hc hd hc2 hd2;exact richCompare_meets_room (op:=.Lt) #[_,ho,rfl] #[_,ho2,rfl] PySem.F.slot_tuple_lt PySem.F.entry_tuple_lt (PySem.F.args_tuple_lt_2 _ _) (MC l b items items2 n n2 dd dd2 sl sl2 ns ms hi hj)
  #[ho,ho2,show Value.bool (lexLt ns ms)≠Value.notImplemented/\Q (.bool (lexLt ns ms)) s from#[(λx=>nomatch x),h]] hu
def bz(n d:Nat):Option Int->Nat
 |none=>d
 |some v=>if v<0 then(v+(n:Int)).toNat else min v.toNat n
theorem nr(n d k:Nat):bz n d (some (k:Int))=min k n:=by
 show(if(k:Int)<0 then((k:Int)+(n:Int)).toNat else min (k:Int).toNat n)=min k n;rw[if_neg (by lia),Yd]
theorem MH(n d:Nat)(hd:d<=n)(o:Option Int):bz n d o<=n:=by
 cases o with|none=>exact hd|some v=>
  show(if v<0 then(v+(n:Int)).toNat else min v.toNat n)<=n;by_cases hv:v<0
  .rw[if_pos hv];lia
  .rw[if_neg hv];exact Nat.min_le_right _ _
theorem Eg(v:Int)(n d:Nat):(if v<0 then max (v+(n:Int)) 0 else min v (n:Int))=((bz n d (some v):Nat):Int):=by
 show(if v<0 then max (v+(n:Int)) 0 else min v (n:Int))=(((if v<0 then(v+(n:Int)).toNat else min v.toNat n):Nat):Int);by_cases hv:v<0
 .simp only[if_pos hv];lia
 .simp only[if_neg hv];lia
theorem MI(lo hi:Option Int)(n:Nat):Builtin.Slice.sliceAdjust lo hi 1 (n:Int)=(((bz n 0 lo:Nat):Int),((bz n n hi:Nat):Int)):=by
 have h1:¬((1:Int)<0):=by lia
 unfold Builtin.Slice.sliceAdjust;simp only[h1,if_false];refine Prod.ext ?_ ?_
 .cases lo with|none=>rfl|some v=>exact Eg v n 0
 .cases hi with|none=>rfl|some v=>exact Eg v n n
theorem MJ(i j:Nat):Builtin.Slice.slicePlaces (i:Int) (j:Int) 1=j-i:=by
 unfold Builtin.Slice.slicePlaces;have h1:(1:Int)>0:=by lia
 simp only[h1,if_true,Int.ediv_one];split<;>lia
def Eh{v:Value}{o:Option Int}{Q:Option Int->Shared->Prop}(p:IsPart v o)(h:Q o s):wpAny (model prog w) A (Builtin.Slice.slicePartIndex v) Q E s:=by
 cases p with|none=>exact slicePart_none h|int i t=>exact slicePart_int h
def MK{n:Nat}{Q:Int×Int×Nat->Shared->Prop}(hs:s.heap.IsSliceOf sl vl vu .none)(pl:IsPart vl lo)(pu:IsPart vu hi)
  (h:Q (((bz n 0 lo:Nat):Int),1,bz n n hi-bz n 0 lo) s):wpAny (model prog w) A (Builtin.Slice.sliceApplied (.ref sl) (pure (n:Int))) Q E s:=by
 obtain⟨os,hos,hcs,hds⟩:=id hs;unfold Builtin.Slice.sliceApplied Builtin.Slice.sliceFields;refine wpAny_bind (wpAny_bind (wpAny_field hos hds (x:=vl) rfl (wpAny_bind (wpAny_field hos hds (x:=vu) rfl (wpAny_bind (wpAny_field hos hds (x:=.none) rfl (wpAny_pure ?_)))))));refine wpAny_bind (slicePart_none ?_);show wpAny _ _ (if((1:Int)==0)=true then _ else _) _ _ s;rw[if_neg (by decide)];refine wpAny_bind (Eh pl (wpAny_bind (Eh pu (wpAny_bind (wpAny_pure ?_)))));show wpAny _ _ (match Builtin.Slice.sliceAdjust lo hi 1 (n:Int)with|(lo,hi)=>pure (lo,(1:Int),Builtin.Slice.slicePlaces lo hi 1)) _ _ s;rw[MI lo hi n];show wpAny _ _ (pure (((bz n 0 lo:Nat):Int),(1:Int),Builtin.Slice.slicePlaces ((bz n 0 lo:Nat):Int) ((bz n n hi:Nat):Int) 1)) _ _ s;rw[MJ];exact wpAny_pure h
theorem ML(xs:Array Value)(i k:Nat):((List.range k).filterMap λ(m:Nat)=>xs[((i:Int)+(m:Int)*1).toNat]?).toArray=((xs.toList.drop i).take k).toArray:=by
 have e:(λ(m:Nat)=>xs[((i:Int)+(m:Int)*1).toNat]?)=λm=>xs[i+m]?:=by
  funext m
  have:((i:Int)+(m:Int)*1).toNat=i+m:=by lia
  rw[this]
 rw[e];have:=pick_run xs i k;rw[List.filterMap_map]at this;have e2:((λx=>xs[x]?) ∘ λx=>i+x)=λm=>xs[i+m]?:=rfl;rw[e2]at this;rw[this]
theorem MM{t:Addr}{Q:ZJ}(ht:IsTup s.heap t items)(hs:s.heap.IsSliceOf sl vl vu .none)(pl:IsPart vl lo)(pu:IsPart vu hi)
  (hw:¬(bz items.size 0 lo=0/\bz items.size items.size hi=items.size))
  (h:Q (.ref s.heap.objs.size) {s with heap:=s.heap.push {cls:=.type "tuple",data:=.seq ((items.toList.drop (bz items.size 0 lo)).take (bz items.size items.size hi-bz items.size 0 lo)).toArray}})
  (hsz:items.size<=sizeLine):wpAny (model prog w) A (getItem (.ref t) (.ref sl)) Q E s:=by
 have uZ:sizeOk (.seq ((items.toList.drop (bz items.size 0 lo)).take (bz items.size items.size hi-bz items.size 0 lo)).toArray):=by
  show((items.toList.drop (bz items.size 0 lo)).take (bz items.size items.size hi-bz items.size 0 lo)).toArray.size<=sizeLine;rw[X3,YF,YN,Zk]
  lia
 have hj:bz items.size items.size hi<=items.size:=MH _ _ (X0 _) hi;obtain⟨os,hos,hcs,hds⟩:=id hs;have hTs:s.TypeIs (.ref sl) "slice":=#[os,hos,hcs]
 unfold getItem
 try with_reducible refine wpAny_holding ?_
 first|refine wpAny_bind (wpAny_pure ?_)|skip
 refine wpAny_bind (wpAny_sequenceKey ht.typeIs (by decide) ?_);refine wpAny_bind (wpAny_callSpecial?_slot (name:=Str.ofString "__getitem__") ht.typeIs PyProof.Rows.slot_tuple_getitem
  (wpAny_call_entry PyProof.Rows.slot_tuple_getitem ht.typeIs entry_tuple_getitem ?_ (args_tuple_getitem _ _)))
 show wpAny _ _ (Builtin.Tuple.tupleItemsOf (.ref t)>>=_) _ _ s;refine wpAny_bind (tupleItemsOf_ ht ?_);refine wpAny_bind (wpAny_typeOf hTs ?_);rw[if_pos (by decide)];refine wpAny_bind (MK hs pl pu ?_);have hno:¬((((bz items.size 0 lo:Nat):Int)==0&&(1:Int)==1&&(bz items.size items.size hi-bz items.size 0 lo)==items.size)=true):=by
  intro q;rw[Ya,Ya]at q;have q1:((bz items.size 0 lo:Nat):Int)=0:=eq_of_beq q.1.1;have q2:bz items.size items.size hi-bz items.size 0 lo=items.size:=eq_of_beq q.2;exact hw #[by lia,by lia]
 show wpAny _ _ (if(((bz items.size 0 lo:Nat):Int)==0&&(1:Int)==1&&(bz items.size items.size hi-bz items.size 0 lo)==items.size)=true then _ else _) _ _ s;rw[if_neg hno,ML]
 first
  |exact wpAny_bind (m:=Builtin.Tuple.tupleExact _) (wpAny_newObj_type (wpAny_pure #[_,rfl,wpAny_pure h]) uZ)
  |exact wpAny_bind (m:=Builtin.Tuple.tupleExact _) (wpAny_newObj_type (wpAny_bind (wpAny_pure (wpAny_pure #[_,rfl,wpAny_pure h]))) uZ)
  |exact wpAny_bind (wpAny_bind (m:=Builtin.Tuple.tupleExact _) (wpAny_newObj_type (wpAny_pure (wpAny_pure #[_,rfl,wpAny_pure h])) uZ))
  |exact wpAny_bind (wpAny_bind (m:=Builtin.Tuple.tupleExact _) (wpAny_newObj_type (wpAny_pure #[_,rfl,wpAny_pure h]) uZ))
end
end HT
namespace L2
open PySem PySem.Spec PyProof.Rows
variable{ns:List Int}{X:Cx}{e elt iter tg value:Expr}{td te ty:TE}{apos cpos p pos pos' py tpos:Pos}{j n t':Nat}{i:Int}{pins:ZZ}{σ:St}{H H':Hp}{s:Shared}{xs ys:List V}{its its' us:List Value}{A:Around}{y:V}{acc it r u v:Value}{T:String}{o:Option V}{a b d l:Addr}{P prog:Program}{w:World}{sc scope:Scope}{env:Env}{cells:List (Str×Addr)}{M:Model}{elts ifs:List Expr}{wi:TI}{g:TG}{tt:TT}{k:Key}{kvs:List (List Key×V)}{h':Heap}{ch:List Addr}{K:ZX}{ta:TA}
abbrev TO:=St->Hp->(Option Int->Hp->Prop)->Prop
def PO(X:Cx)(e:Option Expr)(t:TO):Prop:=
 ∀(pins:ZZ) (s:Shared) (σ:St) (H:Hp) (Q:Option Int->Hp->Prop),Inv X pins σ H s->t σ H Q->
  wpAny (model X.prog X.w) X.A (evalPart e X.env) (λu s'=>aX λo H'=>Inv X pins σ H' s'/\IsPart u o/\Q o H') X.xe s
def MN:TO:=λ_ H Q=>Q none H
inductive MO(Q:Option Int->Hp->Prop)(x:V)(H1:Hp):Prop|mk(i:_)(_:x=.int i)(_:Q (some i) H1)
def MP(t:TE):TO:=λσ H Q=>t σ H λx H1=>MO Q x H1
def intsAre_of:∀ {us:List Value},Vals (ns.map V.int) us->IntsAre us ns:=by
 induction ns with|nil=>intro us r;rw[ZU]at r;cases r;exact .nil|cons n ns ih=>
  intro us r;rw[X7]at r;cases r with|cons r1 r2=>
   obtain⟨t,e⟩:=r1;subst e;exact .cons n t (ih r2)
section
variable{lo hi:Option Expr}{tl th:TO}{p2:Pos}
def yt:PO X none MN:=by
 intro pins s σ H Q I h;rw[evalPart_none];exact wpAny_pure #[none,H,I,.none,h]
def gY(h:PE X e te):PO X (some e) (MP te):=by
 intro pins s σ H Q I hw;rw[evalPart_some];refine aN (h pins s σ H _ I hw) λu s1 ⟨x,H1,I1,r1,q1⟩=>?_;obtain⟨i,rfl,q⟩:=q1;obtain⟨t,rfl⟩:=r1;exact#[some i,H1,I1,.int i t,q]
def rJ(X:Cx)(r:V->Option Int->Option Int->Hp->VK->Prop):Prop:=
 ∀(pins:ZZ) (s:Shared) (σ:St) (H:Hp) (x:V) (v vl vu:Value) (lo hi:Option Int) (sl:Addr) (Q:VK),Inv X pins σ H s->RelV x v->s.heap.IsSliceOf sl vl vu .none->IsPart vl lo->IsPart vu hi->r x lo hi H Q->
  aX λT id=>typeLookup (.type T) "__getitem__"=pure (some (.builtin id))/\s.TypeIs v T/\wpAny (model X.prog X.w) X.A (getItem v (.ref sl)) (EP X pins σ Q) X.xe s
def MQ(r:V->Option Int->Option Int->Hp->VK->Prop)(te:TE)(tl th:TO):TE:=λσ H Q=>te σ H λx H1=>tl σ H1 λl H2=>th σ H2 λu H3=>r x l u H3 Q
def l7{r:V->Option Int->Option Int->Hp->VK->Prop}(hr:rJ X r)(he:PE X e te)(hl:PO X lo tl)(hu:PO X hi th):PE X (.Subscript e (.Slice lo hi none p2) pos) (MQ r te tl th):=by
 intro pins s σ H Q I h;refine Subscript_ (aN (he pins s σ H _ I h) λv s1 ⟨x,H1,I1,r1,q1⟩=>?_);refine wpAny_Slice (aN (hl pins s1 σ H1 _ I1 q1) λvl s2 ⟨l,H2,I2,pl,q2⟩=>aN (hu pins s2 σ H2 _ I2 q2) λvu s3 ⟨u,H3,I3,pu,q3⟩=>?_);rw[evalPart_none];refine wpAny_pure ?_;have I4:Inv X pins σ H3 {s3 with heap:=s3.heap.push {cls:=.type "slice",data:=.fields [vl,vu,.none].toArray}}:=I3.kept (t':=s3.toks) λb ob q=>Heap.get?_push_of_some _ q;obtain⟨T,id,hT,ht,hg⟩:=hr pins {s3 with heap:=s3.heap.push {cls:=.type "slice",data:=.fields [vl,vu,.none].toArray}} σ H3 x v vl vu l u s3.heap.objs.size Q I4 r1 (Heap.IsSliceOf.new ..) pl pu q3;show wpAny (model X.prog X.w) X.A (subscriptTail e (.Slice lo hi none p2) v (.ref s3.heap.objs.size)) (EP X pins σ Q) X.xe {s3 with heap:=s3.heap.push {cls:=.type "slice",data:=.fields [vl,vu,.none].toArray}};exact tail_any (ops:=[.ref s3.heap.objs.size,v]) ht hT hg (by with_unfolding_all rfl)
def eS(xs:List V)(lo hi:Option Int):List V:=(xs.drop (HT.bz xs.length 0 lo)).take (HT.bz xs.length xs.length hi-HT.bz xs.length 0 lo)
theorem Ei(xs:List V)(lo hi:Option Int):(eS xs lo hi).length<=xs.length:=by
 unfold eS;rw[YF,YN]
 lia
inductive Ej(K:ZX)(x:V)(lo:Option Int)(hi:Option Int)(H:Hp)(Q:VK):Prop|mk(a xs:_)(_:x=.ref a)(_:aI K H a xs)(_:¬(HT.bz xs.length 0 lo=0/\HT.bz xs.length xs.length hi=xs.length))(_:∀p,H p=none->Q (.ref p) (upd H p (.tup (eS xs lo hi))))
def MR:rJ X (Ej X.K):=by
 intro pins s σ H x v vl vu lo hi sl Q I rx hs pl pu h;obtain⟨a,xs,rfl,hx,hw,q⟩:=h;cases rx;obtain⟨its,r,ht,hz⟩:=I.tuple hx;have hlen:its.toArray.size=xs.length:=by rw[X3];exact r.length.symm
 refine#["tuple",_,PyProof.Rows.slot_tuple_getitem.lookup,ht.typeIs,?_];refine HT.MM ht hs pl pu (by rw[hlen];exact hw) ?_ (by rw[hlen];exact hz);rw[hlen];refine#[.ref s.heap.objs.size,_,I.laid (t':=s.toks) (o:=.tup (eS xs lo hi)) (λb ob q=>Heap.get?_push_of_some _ q) (X0 _) ?_,rfl,q _ (I.aJ.fresh (X0 _))];exact#[X8 (Ei xs lo hi) hz,_,(r.drop (HT.bz xs.length 0 lo)).take (HT.bz xs.length xs.length hi-HT.bz xs.length 0 lo),IsTup.new _ _]
end
def fW(n:Nat)(i:Int):Option Nat:=if 0<=i then(if i<n then some i.toNat else none)else if -(n:Int)<=i then some (i+n).toNat else none
def l_{α:Type}(xs:List α)(i:Int):Option α:=(fW xs.length i).bind λj=>xs[j]?
theorem Ek(h:fW n i=some j):seqIndex? i n=some j/\j<n/\-(n:Int)<=i/\i<n:=by
 unfold fW at h;by_cases h0:0<=i
 .rw[if_pos h0]at h;by_cases h1:i<n
  .rw[if_pos h1]at h;have e:i.toNat=j:=XW h;exact#[by rw[seqIndex_of h0 h1,e],by lia,by lia,h1]
  .rw[if_neg h1]at h;cases h
 .rw[if_neg h0]at h;by_cases h1:-(n:Int)<=i
  .rw[if_pos h1]at h;have e:(i+n).toNat=j:=XW h;exact#[by rw[seqIndex_neg (by lia) h1,e],by lia,h1,by lia]
  .rw[if_neg h1]at h;cases h
def yu{α:Type}{xs:List α}{v:α}(h:l_ xs i=some v):∃j,seqIndex? i xs.length=some j/\xs[j]?=some v/\j<xs.length/\-(xs.length:Int)<=i/\i<xs.length:=by
 unfold l_ at h;cases e:fW xs.length i with|none=>rw[e]at h;cases h|some j=>
  rw[e]at h;obtain⟨h1,h2,h3,h4⟩:=Ek e;exact#[j,h1,h,h2,h3,h4]
theorem cB{α:Type}{xs:List α}{v:α}(h:xs[j]?=some v):l_ xs (j:Int)=some v:=by
 have hj:j<xs.length:=(XZ.mp h).1;have e:fW xs.length (j:Int)=some j:=by
  unfold fW;rw[if_pos (by lia),if_pos (by lia)];simp
 unfold l_;rw[e];exact h
def yw(b:Expr):Prop:=∀o i,subscripted b false o i=operate [o,i] (getItem o i)
def rK(X:Cx)(r:R2):Prop:=
 ∀(value slice:Expr) (pins:ZZ) (s:Shared) (σ:St) (H:Hp) (x y:V) (v u:Value) (Q:VK),Inv X pins σ H s->RelV x v->RelV y u->r x y H Q->
  subscripted slice false v u=operate [v,u] (getItem v u)->wpAny (model X.prog X.w) X.A (subscriptTail value slice v u) (EP X pins σ Q) X.xe s
def El(X:Cx)(id:String)(r:V->List V->Hp->VK->Prop):Prop:=
 ∀(pins:ZZ) (s:Shared) (σ:St) (H:Hp) (x:V) (xs:List V) (v:Value) (us:List Value) (Q:VK),Inv X pins σ H s->RelV x v->Vals xs us->r x xs H Q->
  wpAny (model X.prog X.w) X.A (call (.builtin id) (v::us)) (EP X pins σ Q) X.xe s
section
variable{a b:Expr}{ta tb:TE}
def iL{r:R2}(hr:rK X r)(ha:PE X a ta)(hb:PE X b tb)(hs:yw b):PE X (.Subscript a b pos) (iK r ta tb):=by
 intro pins s σ H Q I h;exact Subscript_ (ye ha hb I h λv u s2 x y H2 I2 rx ry q=>hr a b pins s2 σ H2 x y v u Q I2 rx ry q (hs _ _))
inductive o_(K:ZX)(x:V)(y:V)(H:Hp)(Q:VK):Prop|mk(p xs i v:_)(_:x=.ref p)(_:y=.int i)(_:af K H p xs)(_:l_ xs i=some v)(_:Q v H)
inductive yz(K:ZX)(x:V)(y:V)(H:Hp)(Q:VK):Prop|mk(p xs i v:_)(_:x=.ref p)(_:y=.int i)(_:aI K H p xs)(_:l_ xs i=some v)(_:Q v H)
theorem MS:rK X (o_ X.K):=by
 intro value slice pins s σ H x y v u Q I rx ry h hs;obtain⟨p,xs,i,z,rfl,rfl,hq,he,q⟩:=h;cases rx;obtain⟨t,rfl⟩:=ry;obtain⟨its,r,pl,hz⟩:=I.list hq;obtain⟨j,h1,h2,h3,h4,h5⟩:=yu he;obtain⟨w,ew,fX⟩:=r.get h2;have hl:=r.length;have hn:=o8;have fin:EP X pins σ Q w s:=#[z,H,I,fX,q]
 by_cases h0:0<=i
 .have hj:i.toNat=j:=by
   rw[seqIndex_of h0 h5]at h1;exact XW h1
  exact item_listR pl.isList h0 (by lia) (by rw[hj];simpa using ew) fin hs
 .have hj:(i+(its.toArray.size:Int)).toNat=j:=by
   rw[seqIndex_neg (by lia) h4]at h1;rw[X3,<-hl];exact XW h1
  exact subscriptTail_builtinR (x:=w) pl.isList.typeIs slot_list_getitem.lookup
   (wpAny_getItem_list_neg (Q:=λr s'=>r=w/\EP X pins σ Q r s') pl.isList (by lia) (by rw[X3]<;>lia) (by lia) (by rw[hj];simpa using ew) #[rfl,fin]) hs
theorem je:rK X (yz X.K):=by
 intro value slice pins s σ H x y v u Q I rx ry h hs;obtain⟨p,xs,i,z,rfl,rfl,hq,he,q⟩:=h;cases rx;obtain⟨t,rfl⟩:=ry;obtain⟨its,r,pl,hz⟩:=I.tuple hq;obtain⟨j,h1,h2,h3,h4,h5⟩:=yu he;obtain⟨w,ew,fX⟩:=r.get h2;have hl:=r.length;have hn:=o8;have fin:EP X pins σ Q w s:=#[z,H,I,fX,q]
 exact subscriptTail_builtinR (x:=w) pl.typeIs slot_tuple_getitem.lookup
  (getItem_tuple (j:=j) (Q:=λr s'=>r=w/\EP X pins σ Q r s') pl (by lia) (by lia) (by rw[X3,<-hl];exact h1) (by simpa using ew) #[rfl,fin]) hs
def MT(its:List Value)(n j:Nat)(u:Value):Obj.mapSeq (·.setIfInBounds j u) {cls:=.type "list",data:=.seq its.toArray n}={cls:=.type "list",data:=.seq (its.set j u).toArray n}:=by
 simp[Obj.mapSeq]
theorem Inv.lst{p:Addr}(I:Inv X pins σ H s)(h:H p=some (.lst xs)):
  aX λ(its:List Value) (n:Nat)=>Vals xs its/\s.heap.get? p=some {cls:=.type "list",data:=.seq its.toArray n}/\xs.length<=sizeLine:=by
 obtain⟨z,its,n,r,e⟩:=I.aJ p _ h;exact#[its,n,r,e,z]
def Inv.MU{p:Addr}{n':Nat}{f:Obj->Obj}(I:Inv X pins σ H s)(h:H p=some (.lst xs))
  (ho:s.heap.get? p=some {cls:=.type "list",data:=.seq its.toArray n}) (hf:f {cls:=.type "list",data:=.seq its.toArray n}={cls:=.type "list",data:=.seq its'.toArray n'}) (r:Vals ys its') (hz:ys.length<=sizeLine) (t:Nat):
  Inv X pins σ (upd H p (.lst ys)) {s with heap:=s.heap.update p f,toks:=t}:=by
 have e:(s.heap.update p f).get? p=some {cls:=.type "list",data:=.seq its'.toArray n'}:=by
  rw[Heap.get?_update_self f ho (by rw[hf]<;>rfl),hf]
 refine I.write (x:=p) (e:=p) (by rw[h];trivial) (.inl rfl) (λb u hb q=>(Heap.get?_update_other _ _ (Ne.symm hb)).trans q) #[_,e] ?_;exact#[hz,its',n',r,e]
inductive Em(o:V)(i:V)(v:V)(H:Hp)(Q:Hp->Prop):Prop|mk(p xs k j:_)(_:o=.ref p)(_:i=.int k)(_:H p=some (.lst xs))(_:fW xs.length k=some j)(_:Q (upd H p (.lst (xs.set j v))))
theorem set_list:x6 X Em:=by
 intro pins s σ H o i v ov iv u Q I ro ri rv h;obtain⟨p,xs,k,j,rfl,rfl,hp,hj,q⟩:=h;cases ro;obtain⟨t,rfl⟩:=ri;obtain⟨its,n,r,ho,hz⟩:=I.lst hp;obtain⟨h1,h2,h3,h4⟩:=Ek hj;have hl:=r.length;have hn:=o8;have I':Inv X pins σ (upd H p (.lst (xs.set j v))) {s with heap:=s.heap.update p (Obj.mapSeq (·.setIfInBounds j u))}:=
  I.MU hp ho (MT its n j u) (r.set rv j) (by rw[ZR];exact hz) s.toks
 by_cases h0:0<=k
 .have hk:k.toNat=j:=by
   rw[seqIndex_of h0 h4]at h1;exact XW h1
  exact PySem.W.ki_setAt ho h0 (by lia) (by rw[X3,<-hl];exact h4) (by rw[hk];exact#[_,I',q])
 .have hk:(k+(its.toArray.size:Int)).toNat=j:=by
   rw[seqIndex_neg (by lia) h3]at h1;rw[X3,<-hl];exact XW h1
  exact PySem.W.ki_setBack ho (by lia) (by rw[X3,<-hl];exact h3) (by lia) (by rw[hk];exact#[_,I',q])
theorem MV(lo hi:Option Int)(n:Nat):(sliceBounds lo hi none n).1=((HT.bz n 0 lo:Nat):Int)/\(sliceBounds lo hi none n).2.1=((HT.bz n n hi:Nat):Int)/\(sliceBounds lo hi none n).2.2=1:=by
 refine#[?_,?_,rfl]
 .cases lo with|none=>simp[sliceBounds,HT.bz]|some i=>
   simp only[sliceBounds,HT.bz,Option.getD_none,show(1:Int)>0 by decide,if_true];by_cases h:i<0
   .simp only[h,if_true]<;>lia
   .simp only[h,if_false]<;>lia
 .cases hi with|none=>simp[sliceBounds,HT.bz]|some i=>
   simp only[sliceBounds,HT.bz,Option.getD_none,show(1:Int)>0 by decide,if_true];by_cases h:i<0
   .simp only[h,if_true]<;>lia
   .simp only[h,if_false]<;>lia
def MW(its:List Value)(lo hi:Option Int):slicePick its.toArray lo hi none=((its.drop (HT.bz its.length 0 lo)).take (HT.bz its.length its.length hi-HT.bz its.length 0 lo)).toArray:=by
 obtain⟨h1,h2,h3⟩:=MV lo hi its.toArray.size;unfold slicePick;rw[h1,h2,h3];simp only[sliceRange_one,pick_run,X3]<;>rfl
inductive Eo(K:ZX)(x:V)(lo:Option Int)(hi:Option Int)(H:Hp)(Q:VK):Prop|mk(a xs:_)(_:x=.ref a)(_:af K H a xs)(_:∀p,H p=none->Q (.ref p) (upd H p (.lst (eS xs lo hi))))
theorem MX:rJ X (Eo X.K):=by
 intro pins s σ H x v vl vu lo hi sl Q I rx hs pl pu h;obtain⟨a,xs,rfl,hx,q⟩:=h;cases rx;obtain⟨its,r,ht,hz⟩:=I.list hx;have hlen:=r.length;refine#["list",_,slot_list_getitem.lookup,ht.isList.typeIs,?_];refine wpAny_getItem_list_slice ht.isList hs pl pu .none (by simp) ?_ (by rw[X3]<;>lia);rw[MW,<-hlen];refine#[.ref s.heap.objs.size,_,I.laid (t':=s.toks) (o:=.lst (eS xs lo hi)) (λb ob q=>Heap.get?_push_of_some _ q) (X0 _) ?_,rfl,q _ (I.aJ.fresh (X0 _))];exact#[X8 (Ei xs lo hi) hz,_,0,(r.drop (HT.bz xs.length 0 lo)).take (HT.bz xs.length xs.length hi-HT.bz xs.length 0 lo),Heap.get?_push_size _ rfl]
def jf:V->Bool
 |.ay=>true
 |.bl _=>true
 |.int _=>true
 |.str _=>true
 |_=>false
noncomputable def gv:V->V->Bool
 |.ay,.ay=>true
 |.bl a,.bl b=>a==b
 |.bl a,.int b=>(if a then 1 else 0)==b
 |.int a,.bl b=>a==(if b then 1 else 0)
 |.int a,.int b=>a==b
 |.str a,.str b=>a==b
 |_,_=>false
def MY{x:V}(ry:RelV y u)(rx:RelV x v)(fy:jf y=true)(fx:jf x=true):SeqAt.EqAt A s u v (gv y x):=by
 cases y with
 |ay=>
  cases ry;cases x with|ay=>cases rx;exact SeqAt.EqAt.same _|bl b=>cases rx;exact SeqAt.EqAt.none_bool b|int b=>obtain⟨t,rfl⟩:=rx;exact SeqAt.EqAt.none_int b t|str b=>obtain⟨t,rfl⟩:=rx;exact SeqAt.EqAt.none_str b t|_=>exact absurd (show false=true from fx) X9
 |bl a=>
  cases ry;cases x with|ay=>cases rx;exact SeqAt.EqAt.bool_none a|bl b=>cases rx;exact SeqAt.EqAt.bool_bool a b|int b=>obtain⟨t,rfl⟩:=rx;exact SeqAt.EqAt.bool_int a b t|str b=>obtain⟨t,rfl⟩:=rx;exact SeqAt.EqAt.bool_str a b t|_=>exact absurd (show false=true from fx) X9
 |int a=>
  obtain⟨t',rfl⟩:=ry;cases x with|ay=>cases rx;exact SeqAt.EqAt.int_none a t'|bl b=>cases rx;exact SeqAt.EqAt.int_bool a t' b|int b=>obtain⟨t,rfl⟩:=rx;exact SeqAt.EqAt.int_int a t' b t|str b=>obtain⟨t,rfl⟩:=rx;exact SeqAt.EqAt.int_str a t' b t|_=>exact absurd (show false=true from fx) X9
 |str a=>
  obtain⟨t',rfl⟩:=ry;cases x with|ay=>cases rx;exact SeqAt.EqAt.str_none a t'|bl b=>cases rx;exact SeqAt.EqAt.str_bool a t' b|int b=>obtain⟨t,rfl⟩:=rx;exact SeqAt.EqAt.str_int a t' b t|str b=>obtain⟨t,rfl⟩:=rx;exact SeqAt.EqAt.str_str a t' b t|_=>exact absurd (show false=true from fx) X9
 |_=>exact absurd (show false=true from fy) X9
def kJ(x:V)(u:Value):Bool:=match u with
 |.none=>gv .ay x
 |.bool b=>gv (.bl b) x
 |.int i _=>gv (.int i) x
 |.str z _=>gv (.str z) x
 |_=>false
def Ep{x:V}(r:RelV y u)(f:jf y=true):kJ x u=gv y x:=by
 cases y with|ay=>cases r;rfl|bl b=>cases r;rfl|int i=>obtain⟨t,rfl⟩:=r;rfl|str z=>obtain⟨t,rfl⟩:=r;rfl|_=>exact absurd (show false=true from f) X9
theorem yA{x:V}:∀ {xs:List V} {us:List Value},Vals xs us->xs.all jf=true->us.any (kJ x)=xs.any λy=>gv y x
 |_,_,.nil,_=>rfl
 |y::xs,u::us,.cons r t,f=>by
  rw[Z6,Ya]at f;rw[Y9,Y9,Ep r f.1,yA t f.2]
theorem yB{x:V}(rx:RelV x v)(fx:jf x=true):∀ {xs:List V} {us:List Value},Vals xs us->xs.all jf=true->∀u∈us,SeqAt.EqAt A s u v (kJ x u)
 |_,_,.nil,_=>λu hu=>by cases hu
 |y::xs,u::us,.cons r t,f=>λu' hu=>by
  rw[Z6,Ya]at f;rcases X5.mp hu with rfl|hu
  .rw[Ep r f.1];exact MY r rx f.1 fx
  .exact yB rx fx t f.2 u' hu
def gZ(x:V)(xs:List V):Bool:=xs.any λy=>gv y x
inductive Er(K:ZX)(neg:Bool)(x:V)(y:V)(H:Hp)(Q:VK):Prop|mk(p xs:_)(_:y=.ref p)(_:(af K H p xs\/aI K H p xs))(_:jf x=true)(_:xs.all jf=true)(_:Q (.bl (if neg then !gZ x xs else gZ x xs)) H)
def MZ:bZ X (compareOp .In) (Er X.K false):=by
 intro pins s σ H x y v u Q I rx ry h;obtain⟨p,xs,rfl,hq,fx,fs,q⟩:=h;cases ry;rcases hq with hq|hq
 .obtain⟨its,r,pl,hz⟩:=I.list hq;refine SeqAt.in_listAt (kJ x) pl.isList (λw hw=>yB rx fx r fs w (by simpa using hw)) #[.bl _,H,I,rfl,?_];rw[show its.toArray.any (kJ x)=its.any (kJ x) by simp,yA r fs];exact q
 .obtain⟨its,r,pl,hz⟩:=I.tuple hq;refine SeqAt.in_tupleAt (kJ x) pl (λw hw=>yB rx fx r fs w (by simpa using hw)) #[.bl _,H,I,rfl,?_];rw[show its.toArray.any (kJ x)=its.any (kJ x) by simp,yA r fs];exact q
theorem M0:gU X (.builtin "len") (λxs H Q=>aX λp ys=>xs=[.ref p]/\(af X.K H p ys\/aI X.K H p ys)/\Q (.int ys.length) H):=by
 intro pins s σ H xs us Q I r h;obtain⟨p,ys,rfl,hq,q⟩:=h;obtain⟨u,rfl,rx⟩:=vals1 r;cases rx;have hn:=o8;rcases hq with hq|hq
 .obtain⟨its,r',pl,hz⟩:=I.list hq;have hlen:=r'.length;exact Calls.call_len_list pl.isList (by simp only[X3]<;>lia) #[.int ys.length,H,I.tok _,#[s.toks+1,by rw[X3,hlen]],q]
 .obtain⟨its,r',pl,hz⟩:=I.tuple hq;have hlen:=r'.length;exact len_tuple pl (by simp only[X3]<;>lia) #[.int ys.length,H,I.tok _,#[s.toks+1,by rw[X3,hlen]],q]
theorem M1:gU X (.type "list") (λxs H Q=>aX λp ys=>xs=[.ref p]/\(af X.K H p ys\/aI X.K H p ys)/\∀l,H l=none->Q (.ref l) (upd H l (.lst ys))):=by
 intro pins s σ H xs us Q I r h;obtain⟨p,ys,rfl,hq,q⟩:=h;obtain⟨u,rfl,rx⟩:=vals1 r;cases rx;have fin:∀(its:List Value),Vals ys its->ys.length<=sizeLine->∀(h':Heap) (c':Nat),(∀b o',s.heap.get? b=some o'->h'.get? b=some o')->
   h'.get? s.heap.objs.size=some {cls:=.type "list",dict:=none,data:=.seq its.toArray c',slots:=#[]}->EP X pins σ Q (.ref s.heap.objs.size) {s with heap:=h'}:=λits r' hz h' c' kp e=>
  #[.ref s.heap.objs.size,_,I.laid (t':=s.toks) kp (X0 _) (show cu X.prog X.w _ h' _ (.lst ys)from#[hz,its,c',r',e]),rfl,q _ (I.aJ.fresh (X0 _))]
 rcases hq with hq|hq
 .obtain⟨its,r',pl,hz⟩:=I.list hq;have hlen:=r'.length;obtain⟨o,ho,hc,n,hd⟩:=pl.isList;exact call_list_seq p (.inl rfl) ho hc hd (λh' c' kp e=>fin its r' hz h' c' kp e) (by simp only[X3]<;>lia)
 .obtain⟨its,r',pl,hz⟩:=I.tuple hq;have hlen:=r'.length;obtain⟨o,ho,hc,n,hd⟩:=pl;exact call_list_seq p (.inr rfl) ho hc hd (λh' c' kp e=>fin its r' hz h' c' kp e) (by simp only[X3]<;>lia)
def yC(K:ZX)(T:String)(x:V)(H:Hp):Prop:=match x with
 |.str _=>T="str"
 |.int _=>T="int"
 |.ref p=>(T="list"/\∃xs,af K H p xs)\/(T="tuple"/\∃o,K.lookup p=some o/\o.cls=.type "tuple"/\o.dict=none)\/
   (T="dict"/\((∃kvs,H p=some (.dK kvs))\/∃kvs,H p=some (.dT kvs)))\/(T="set"/\aX λS n=>H p=some (.set S n))
 |_=>False
def Es{x:V}(I:Inv X pins σ H s)(r:RelV x v)(ty:yC X.K T x H):
  s.TypeIs v T/\∀a,v=.ref a->∃ob,s.heap.get? a=some ob/\ob.dict=none:=by
 cases x with
 |str z=>
  obtain⟨t,rfl⟩:=r;cases(show T="str" from ty);exact#[typeIs_str s z t,λ_ e=>nomatch e]
 |int i=>
  obtain⟨t,rfl⟩:=r;cases(show T="int" from ty);exact#[typeIs_int s i t,λ_ e=>nomatch e]
 |ref p=>
  cases r;rcases ty with⟨rfl,xs,hq⟩|⟨rfl,o,hk,hc,hd⟩|⟨rfl,hk⟩|⟨rfl,S,n,hk⟩
  .obtain⟨its,_,pl,_⟩:=I.list hq;refine#[pl.isList.typeIs,λa e=>?_];cases e;obtain⟨o,n,e,c,hd,_⟩:=pl;exact#[o,e,hd]
  .refine#[#[o,I.e8 p o hk,hc],λa e=>?_];cases e;exact#[o,I.e8 _ o hk,hd]
  .have z:∃o,s.heap.get? p=some o/\o.ExactDict:=by
    rcases hk with⟨kvs,hk⟩|⟨kvs,hk⟩
    .obtain⟨_,_,_,_,o,_,_,e,ex,_⟩:=I.aJ p _ hk;exact#[o,e,ex]
    .obtain⟨_,_,_,_,o,_,_,e,ex,_⟩:=I.aJ p _ hk;exact#[o,e,ex]
   obtain⟨o,e,ex⟩:=z;refine#[#[o,e,ex.1],λa e2=>?_];cases e2;exact#[o,e,ex.2.1]
  .obtain⟨o,_,_,_,e,ex,_⟩:=I.aJ p _ hk;refine#[#[o,e,ex.1],λa e2=>?_];cases e2;exact#[o,e,ex.2.1]
 |_=>exact False.elim ty
def M3(K:ZX)(T:String)(r:V->List V->Hp->VK->Prop)(to:TE):TE:=λσ H Q=>to σ H λx H1=>yC K T x H1/\r x [] H1 Q
def M4(K:ZX)(T:String)(r:V->List V->Hp->VK->Prop)(to:TE)(t:TA):TE:=λσ H Q=>to σ H λx H1=>yC K T x H1/\t σ H1 λxs H2=>r x xs H2 Q
variable{o:Expr}{es:List Expr}{to:TE}{t:TA}{name:Str}{id:String}{r:V->List V->Hp->VK->Prop}
def pb(pa:PlainAttrs T)(slot:Slot T name id)(hty:typeOf (.builtin id)=pure (.type "method_descriptor"))(hm:El X id r)(ho:PE X o to)
  (hbase:attributeBase o name X.env (eval o X.env)=eval o X.env:=by rfl) (hline:(apos.endLine==cpos.line)=true:=by rfl):PE X (.Call (.Attribute o name apos) [] [] cpos) (M3 X.K T r to):=by
 intro pins s σ H Q I h;refine wpAny_Call_method0_late hbase hline (aN (ho pins s σ H _ I h) λv s1 ⟨x,H1,I1,r1,ty,q1⟩=>?_);obtain⟨h1,h2⟩:=Es I1 r1 ty;exact#[T,id,pa,slot,hty,h1,h2,Calls.callWith_builtin rfl (PySem.evalArgs_none (hm pins s1 σ H1 x [] v [] Q I1 r1 .nil q1))]
def c_(pa:PlainAttrs T)(slot:Slot T name id)(hty:typeOf (.builtin id)=pure (.type "method_descriptor"))(hm:El X id r)(ho:PE X o to)(ha:PA X (e::es) t)
  (hbase:attributeBase o name X.env (eval o X.env)=eval o X.env:=by rfl)
  (hfew:((backTo cpos (starEach (e::es) X.env)).all (λx=>!x.1)&&(backToKw cpos (keywordEach [] X.env)).all (λx=>x.1.isSome)
   &&decide ((e::es).length+([]:List Keyword).length+(if([]:List Keyword).isEmpty then 0 else 1)<30))=true:=by rfl)
  (hline:(apos.endLine==cpos.line)=true:=by rfl) (hs:starEach (e::es) X.env=(false,eval e X.env)::starEach es X.env:=by rfl) (hplain:(backTo cpos (starEach es X.env)).any (·.1)=false:=by rfl):
  PE X (.Call (.Attribute o name apos) (e::es) [] cpos) (M4 X.K T r to t):=by
 intro pins s σ H Q I h;refine wpAny_Call_method_late hbase hfew hline rfl (aN (ho pins s σ H _ I h) λv s1 ⟨x,H1,I1,r1,ty,q1⟩=>?_);obtain⟨h1,h2⟩:=Es I1 r1 ty;refine#[T,id,pa,slot,hty,h1,h2,?_];have hA:=ha cpos pins s1 σ H1 _ I1 q1;rw[hs]at hA ⊢;refine Calls.callWith_builtin (by show(false||(backTo cpos (starEach es X.env)).any (·.1))=false;rw[hplain]<;>rfl) (Calls.evalArgs_plain ?_);exact aN hA λus s2 ⟨vs,H2,I2,r2,q2⟩=>hm pins s2 σ H2 x vs v us Q I2 r1 r2 q2
end
def nv(X:Cx)(id:String)(r:V->List V->Hp->VK->Prop):Prop:=
 ∀(pins:ZZ) (s:Shared) (σ:St) (H:Hp) (x:V) (xs:List V) (v:Value) (us:List Value) (Q:VK),Inv X pins σ H s->RelV x v->Vals xs us->r x xs H Q->
  wpAny (model X.prog X.w) X.A (call (.builtin id) (v::us)) (EP X pins σ Q) X.xe s
def Vals.one:∀ {x:V} {us:List Value},Vals [x] us->∃u,us=[u]/\RelV x u
 |_,_,.cons r .nil=>#[_,rfl,r]
def Vals.zero:∀ {us:List Value},Vals [] us->us=[]
 |_,.nil=>rfl
theorem Vals.dropLast(h:Vals xs us):Vals xs.dropLast us.dropLast:=by
 induction h with|nil=>exact .nil|cons r t ih=>
  cases t with|nil=>exact .nil|cons q t'=>exact .cons r ih
theorem Vals.eraseIdx:∀ {xs:List V} {us:List Value} (i:Nat),Vals xs us->Vals (xs.eraseIdx i) (us.eraseIdx i)
 |_,_,_,.nil=>.nil
 |_,_,0,.cons _ t=>t
 |_,_,i+1,.cons r t=>.cons r (Vals.eraseIdx i t)
theorem Vals.rep(h:Vals xs us):∀k:Nat,Vals (List.replicate k xs).flatten (List.replicate k us).flatten
 |0=>.nil
 |k+1=>by
  rw[Y7,Y7,Yt,Yt];exact Vals.append h (Vals.rep h k)
theorem M5{α:Type}(l:List α):l.eraseIdx (l.length-1)=l.dropLast:=by
 induction l with|nil=>rfl|cons a r ih=>
  cases r with|nil=>rfl|cons b r=>
   have e:(a::b::r).length-1=((b::r).length-1)+1:=by
    have h1:(a::b::r).length=r.length+2:=rfl;have h2:(b::r).length=r.length+1:=rfl
    lia
   rw[e,List.eraseIdx_cons_succ,ih]
   all_goals rfl
theorem Et{α:Type}:∀(l:List α) (i:Nat),(l.eraseIdx i).length<=l.length
 |[],_=>X0 _
 |_::_,0=>aaG _
 |_::r,i+1=>Nat.succ_le_succ (Et r i)
theorem foldl_rep(its:List Value):∀(k:Nat) (acc:List Value),
  List.foldl (λx1 x2=>x1++x2) acc.toArray (List.replicate k its.toArray)=(acc++(List.replicate k its).flatten).toArray
 |0,acc=>by simp
 |k+1,acc=>by
  have e:acc.toArray++its.toArray=(acc++its).toArray:=by simp
  have e2:(acc++its)++(List.replicate k its).flatten=acc++(List.replicate (k+1) its).flatten:=by
   rw[Y7,Yt,Yw]
  rw[<-e2,<-foldl_rep its k (acc++its),<-e,Y7,YM]
section
variable{zs:List V}
def Inv.rL{f:Array Value->Array Value}(I:Inv X pins σ H s)(hH:H l=some (.lst xs))
  (e:s.heap.get? l=some {cls:=.type "list",data:=.seq its.toArray n}) (hf:f its.toArray=its'.toArray) (hv:Vals ys its') (hz:ys.length<=sizeLine):
  Inv X pins σ (upd H l (.lst ys)) {s with heap:=s.heap.update l (Obj.mapSeq f),toks:=t'}:=by
 have q:=PySem.IsL.update e f;rw[hf]at q;refine I.write (x:=l) (e:=l) (by rw[hH];exact trivial) (.inl rfl) (λb' u hb hu=>(Heap.get?_update_other s.heap (Obj.mapSeq f) (Ne.symm hb)).trans hu) #[_,q] ?_;exact#[hz,its',_,hv,q]
def Inv.Eu(I:Inv X pins σ H s)(hv:Vals ys its)(hz:ys.length<=sizeLine):
  Inv X pins σ (upd H s.heap.objs.size (.lst ys)) {s with heap:=s.heap.push {cls:=.type "list",data:=.seq its.toArray},toks:=t'}:=
 I.laid (λ_ _ q=>Heap.get?_push_of_some _ q) (X0 _) #[hz,its,0,hv,Heap.get?_push_size _ rfl]
theorem Inv.fresh(I:Inv X pins σ H s):H s.heap.objs.size=none:=I.aJ.fresh (X0 _)
def Inv.kK(I:Inv X pins σ H s)(hH:H l=some (.lst xs)):xs.length<=sizeLine/\aX λ(its:List Value) (n:Nat)=>Vals xs its/\xs.length=its.length/\s.heap.get? l=some {cls:=.type "list",data:=.seq its.toArray n}:=by
 obtain⟨z,its,n,r,e⟩:=I.aJ l _ hH;exact#[z,its,n,r,r.length,e]
theorem yD(h:n<=sizeLine):Builtin.List.listTooLong n=false:=by
 unfold Builtin.List.listTooLong;exact Yh (by lia)
end
inductive M6(x:V)(vs:List V)(H:Hp)(Q:VK):Prop|mk(l xs y:_)(_:x=.ref l)(_:vs=[y])(_:H l=some (.lst xs))(_:xs.length<sizeLine)(_:Q .ay (upd H l (.lst (xs++[y]))))
theorem fE:nv X "list.append" M6:=by
 intro pins s σ H x vs v us Q I rx rv h;obtain⟨l,xs,y,rfl,rfl,hH,hz,q⟩:=h;cases rx;obtain⟨u,rfl,ru⟩:=rv.one;obtain⟨z,its,n,r,hl,e⟩:=I.kK hH;refine call_meets F.slot_list_append #[_,e,rfl] F.entry_list_append (F.args_list_append_2 _ _) (PySem.list_append l its.toArray n u (by rw[X3];lia)) #[e,?_];refine#[.ay,_,I.rL (its':=its++[u]) hH e (by simp) (r.append (.cons ru .nil)) ?_,rfl,q];rw[XY,YE]
 lia
inductive M7(x:V)(vs:List V)(H:Hp)(Q:VK):Prop|mk(l b xs zs:_)(_:x=.ref l)(_:vs=[.ref b])(_:H l=some (.lst xs))(_:H b=some (.lst zs))(_:xs.length+zs.length<=sizeLine)(_:Q .ay (upd H l (.lst (xs++zs))))
theorem yE:nv X "list.extend" M7:=by
 intro pins s σ H x vs v us Q I rx rv h;obtain⟨l,b,xs,zs,rfl,rfl,hH,hB,hz,q⟩:=h;cases rx;obtain⟨u,rfl,ru⟩:=rv.one;cases ru;obtain⟨z,its,n,r,hl,e⟩:=I.kK hH;obtain⟨z2,its2,n2,r2,hl2,e2⟩:=I.kK hB;have hsz:its.toArray.size+its2.toArray.size<=sizeLine:=by rw[X3,X3];lia
 have rM:¬(!its.toArray.isEmpty&&Builtin.List.listTooLong (its.toArray.size+its2.toArray.size))=true:=by
  rw[yD hsz,aai];exact X9
 refine call_meets F.slot_list_extend #[_,e,rfl] F.entry_list_extend (F.args_list_extend_2 _ _)
  (AutoSeq1.list_extend_list_list_0 l its.toArray n b its2.toArray n2 rM (by rw[X3];lia) (by lia)) #[e,e2,?_]
 refine#[.ay,_,I.rL (its':=its++its2) hH e (by simp) (r.append r2) ?_,rfl,q];rw[XY]
 lia
inductive M8(x:V)(vs:List V)(H:Hp)(Q:VK):Prop|mk(l xs y:_)(_:x=.ref l)(_:vs=[])(_:H l=some (.lst xs))(_:xs[xs.length-1]?=some y)(_:Q y (upd H l (.lst xs.dropLast)))
theorem ph:nv X "list.pop" M8:=by
 intro pins s σ H x vs v us Q I rx rv h;obtain⟨l,xs,y,rfl,rfl,hH,hy,q⟩:=h;cases rx;have hus:=rv.zero;subst hus;obtain⟨z,its,n,r,hl,e⟩:=I.kK hH;obtain⟨u,hu,ru⟩:=r.get hy;have hy':its.toArray[its.toArray.size-1]?=some u:=by
  show its.toArray[its.length-1]?=some u;rw[<-ZD,<-hl];exact hu
 refine call_meets F.slot_list_pop #[_,e,rfl] F.entry_list_pop (F.args_list_pop_1 _) (MeetsSeq.list_pop_last l its.toArray n u hy' (by rw[X3];lia)) #[e,?_];refine#[y,_,I.rL (its':=its.dropLast) hH e ?_ r.dropLast ?_,ru,q]
 .show its.toArray.eraseIdxIfInBounds (its.toArray.size-1)=its.dropLast.toArray;rw[X3,aaa,M5]
 .rw[List.length_dropLast]
  lia
inductive M9(x:V)(vs:List V)(H:Hp)(Q:VK):Prop|mk(l xs i k y:_)(_:x=.ref l)(_:vs=[.int i])(_:H l=some (.lst xs))(_:-(2^63)<=i)(_:i<2^63)(_:seqIndex? i xs.length=some k)(_:xs[k]?=some y)(_:Q y (upd H l (.lst (xs.eraseIdx k))))
theorem M_:nv X "list.pop" M9:=by
 intro pins s σ H x vs v us Q I rx rv h;obtain⟨l,xs,i,k,y,rfl,rfl,hH,h1,h2,hk,hy,q⟩:=h;cases rx;obtain⟨u,rfl,ru⟩:=rv.one;obtain⟨t,rfl⟩:=ru;obtain⟨z,its,n,r,hl,e⟩:=I.kK hH;obtain⟨w,hw,fX⟩:=r.get hy;refine call_meets F.slot_list_pop #[_,e,rfl] F.entry_list_pop (F.args_list_pop_2 _ _)
  (MeetsSeq.list_pop_at l its.toArray n i t k w (fitsIndex_both h1 h2) (by rw[X3,<-hl];exact hk) (by rw[<-ZD];exact hw) (by rw[X3];lia)) #[e,?_]
 refine#[y,_,I.rL (its':=its.eraseIdx k) hH e ?_ (r.eraseIdx k) ?_,fX,q]
 .show its.toArray.eraseIdxIfInBounds k=(its.eraseIdx k).toArray;rw[aaa]
 .have:=Et xs k
  lia
inductive Na(x:V)(y:V)(H:Hp)(Q:VK):Prop|mk(l b xs zs:_)(_:x=.ref l)(_:y=.ref b)(_:H l=some (.lst xs))(_:H b=some (.lst zs))(_:xs.length+zs.length<=sizeLine)(_:∀p,H p=none->Q (.ref p) (upd H p (.lst (xs++zs))))
theorem jO:bZ X (binaryOp .Add) Na:=by
 intro pins s σ H x y v u Q I rx ry h;obtain⟨l,b,xs,zs,rfl,rfl,hH,hB,hz,q⟩:=h;cases rx;cases ry;obtain⟨z,its,n,r,hl,e⟩:=I.kK hH;obtain⟨z2,its2,n2,r2,hl2,e2⟩:=I.kK hB;refine PySem.P.add_list e e2 ?_ (by rw[X3,X3];lia);have ea:its.toArray++its2.toArray=(its++its2).toArray:=by simp
 rw[ea];exact#[.ref _,_,I.Eu (t':=s.toks) (r.append r2) (by rw[XY];lia),rfl,q _ I.fresh]
inductive Nb(x:V)(y:V)(H:Hp)(Q:VK):Prop|mk(l k xs:_)(_:x=.ref l)(_:y=.int k)(_:H l=some (.lst xs))(_:-(2^63)<=k)(_:k<2^63)(_:xs.length*k.toNat<=sizeLine)(_:∀p,H p=none->Q (.ref p) (upd H p (.lst (List.replicate k.toNat xs).flatten)))
def len_rep{α:Type}(xs:List α)(k:Nat):(List.replicate k xs).flatten.length=k*xs.length:=by
 induction k with|zero=>simp|succ k ih=>rw[Y7,Yt,XY,ih,YY,aaw]
theorem jg:bZ X (binaryOp .Mult) Nb:=by
 intro pins s σ H x y v u Q I rx ry h;obtain⟨l,k,xs,rfl,rfl,hH,h1,h2,hz,q⟩:=h;cases rx;obtain⟨t,rfl⟩:=ry;obtain⟨z,its,n,r,hl,e⟩:=I.kK hH;have hlen:its.toArray.size*k.toNat<=sizeLine:=by rw[X3,<-hl];exact hz
 have hcap:¬its.toArray.size*k.toNat>(2^63-1) / 8:=by
  have:(sizeLine:Nat)<=(2^63-1) / 8:=by decide
  lia
 have hfit:¬(!Builtin.List.listFitsIndex k)=true:=by
  rw[fitsIndex_both h1 h2];exact X9
 have rM:¬Builtin.List.listTooLong (its.toArray.size*k.toNat)=true:=by
  rw[yD hlen];exact X9
 have hnew:List.foldl (λx1 x2=>x1++x2) #[] (List.replicate (if its.toArray.isEmpty=true then 0 else k.toNat) its.toArray)=(List.replicate k.toNat its).flatten.toArray:=by
  have f0:∀m:Nat,List.foldl (λx1 x2=>x1++x2) #[] (List.replicate m its.toArray)=(List.replicate m its).flatten.toArray:=λm=>by
   have:=foldl_rep its m [];rw[List.nil_append]at this;exact this
  rw[f0];cases its with|nil=>simp|cons a r'=>rw[if_neg (by simp)]
 refine wpAny_binaryOp_repeat_ref (T:="list") (U:="int") (by decide) #[_,e,rfl] (λs'=>typeIs_int s' k t) noFill_list_mul F.fills_int_mul F.slot_int_rmul repeat_list F.slot_int_index.lookup
  (call_meets F.slot_int_rmul (typeIs_int s k t) F.entry_int_rmul (F.args_int_rmul_2 _ _) (int___rmul___int_list k t l its.toArray n)
   #[e,rfl,#[_,e,rfl],call_meets F.slot_list_mul #[_,e,rfl] F.entry_list_mul (F.args_list_mul_2 _ _) (AutoListH.list___mul___list_int_3 l its.toArray n k t hfit hcap rM) #[e,?_]])
 rw[hnew];exact#[.ref _,_,I.Eu (t':=s.toks) (r.rep k.toNat) (by rw[len_rep,ZE];exact hz),rfl,q _ I.fresh]
section
variable{E:ZJ}
set_option maxRecDepth 100000 in
end
theorem Vals.ints:∀ {ns:List Int} {us:List Value},Vals (ns.map V.int) us->IntsAre us ns
 |[],us,h=>by
  rw[ZU]at h;cases h;exact IntsAre.nil
 |n::ns,us,h=>by
  rw[X7]at h;cases h with|cons r t=>
   obtain⟨k,rfl⟩:=r;exact IntsAre.cons n k (Vals.ints t)
theorem Vals.yF:∀ {bs:List Bool} {us:List Value},Vals (bs.map V.bl) us->us=bs.map Value.bool
 |[],us,h=>by
  rw[ZU]at h;cases h;rfl
 |b::bs,us,h=>by
  rw[X7]at h;cases h with|cons r t=>
   cases r;rw[Vals.yF t,X7]
def Vals.yG(r:Vals [V.ref a] us):us=[Value.ref a]:=by
 cases r with|cons r t=>
  cases t;cases r;rfl
def Vals.Nc{j:Int}(r:Vals [V.int i,V.int j] us):aX λt u=>us=[Value.int i t,Value.int j u]:=by
 cases r with|cons r t=>
  cases t with|cons r2 t2=>
   cases t2;obtain⟨t,rfl⟩:=r;obtain⟨u,rfl⟩:=r2;exact#[t,u,rfl]
section
variable{E:ZJ}{Q:ZJ}
def Nd(hh:A.handled=none)(hl:s.heap.IsList l its.toArray)(hi:IntsAre its ns)
  (h:∀h' tk t',(∀b o,s.heap.get? b=some o->h'.get? b=some o)->Q (.int ns.sum t') {s with heap:=h',toks:=tk}):wpAny (model prog w) A (call (.builtin "sum") [.ref l]) Q E s:=by
 obtain⟨xs,e⟩:=hi.allInts.items;have hn:numsOf (intItems xs).toList=ns:=by rw[<-e];exact hi.numsOf
 rw[nums_intItems]at hn;rw[e]at hl;refine PySem.sum_intListG hh hl λh' tk t' hk=>?_;have:=h h' tk t' hk;rw[preSum_eq,Yv (by simp),hn];exact this
end
inductive Ew(K:ZX)(vs:List V)(H:Hp)(Q:VK):Prop|mk(a:Addr)(ns:List Int)(_:vs=[V.ref a])(_:af K H a (ns.map V.int))(_:Q (.int ns.sum) H)
def Nf(hc:X.calm=true):gU X (.builtin "sum") (Ew X.K):=by
 intro pins s σ H vs us Q I r h;obtain⟨a,ns,rfl,hs,q⟩:=h;obtain⟨its,rv,hl,_⟩:=I.list hs;rw[Vals.yG r];exact Nd (I.ok.hd hc) hl.isList rv.ints λh' tk t' hk=>#[.int _,H,I.kept hk,#[_,rfl],q]
def Ng{E:ZJ}{items:Array Value}{Q:ZJ}(hl:s.heap.IsList l items)
  (h:∀s₂:Shared,s₂={s with heap:=s.heap.push {cls:=.type "list_iterator",data:=.fields [.ref l,.int 0 0].toArray}}->
   (s₂.heap.IsListIter s.heap.objs.size l 0/\s₂.heap.IsList l items)->l≠s.heap.objs.size->Q (.ref s.heap.objs.size) s₂):wpAny (model prog w) A (pyIter (.ref l)) Q E s:=by
 have hlt:l<s.heap.objs.size:=by obtain⟨_,e,_⟩:=hl;exact Heap.lt_size e
 exact wpAny_pyIter_list hl (h _ rfl #[#[_,Heap.get?_push_size _ rfl,rfl,rfl],hl.push _] (Yj hlt))
def Nh{bs:List Bool}(e:its=bs.map Value.bool):
  TruthOf prog w A (λi v=>its.toArray[i]?=some v) (λi=>bs.getD i false):=λi v s Q E hv hq=>by
 have hv':its[i]?=some v:=by simpa using hv
 rw[e,X1]at hv';obtain⟨b,hb,rfl⟩:=Option.map_eq_some_iff.mp hv';have hg:bs.getD i false=b:=by rw[XU,hb]<;>rfl
 have hq':Q (bs.getD i false) s:=hq;rw[hg]at hq';exact wpAny_truthy_bool hq'
theorem all_range:∀bs:List Bool,(List.range bs.length).all (λi=>bs.getD i false)=bs.all id
 |[]=>rfl
 |b::bs=>by
  rw[X2,List.range_succ_eq_map,Z6,List.all_map,Z6,<-all_range bs]
  all_goals rfl
inductive Ni(K:ZX)(vs:List V)(H:Hp)(Q:VK):Prop|mk(a:Addr)(bs:List Bool)(_:vs=[V.ref a])(_:af K H a (bs.map V.bl))(_:Q (.bl (bs.all id)) H)
def Nj(hc:X.calm=true):gU X (.builtin "all") (Ni X.K):=by
 intro pins s σ H vs us Q I r h;obtain⟨a,bs,rfl,hs,q⟩:=h;obtain⟨its,rv,hl,_⟩:=I.list hs;rw[Vals.yG r];have hb:=rv.yF;refine call_all_walk (Ng hl.isList λs₂ e2 st hne=>?_);subst e2;refine#[_,_,_,_,_,_,_,rfl,Walks.list (A:=X.A.in1) (I.ok.hd hc) _ a hne its.toArray,st,Nh hb,λh' tk hk=>?_];refine#[.bl _,H,I.kept λb o eo=>hk b o (λhmem=>?_) (Heap.get?_push_of_some _ eo),?_,q]
 .rcases X5.mp hmem with e1|hmem
  .exact absurd (e1▸Heap.lt_size eo) (YL _)
  .cases hmem
 .show Value.bool _=Value.bool _;rw[<-all_range,hb,X3,XX]
mutual
inductive Dp(K:ZX)(H:Hp):V->PyData->Prop
 |ay:Dp K H .ay .none
 |bl (b:Bool):Dp K H (.bl b) (.bool b)
 |int (i:Int):Dp K H (.int i) (.int i)
 |str (x:Str):Dp K H (.str x) (.str x)
 |lst {a:Addr} {xs:List V} {ds:List PyData}:af K H a xs->ny K H xs ds->Dp K H (.ref a) (.list ds)
 |tup {a:Addr} {xs:List V} {ds:List PyData}:aI K H a xs->ny K H xs ds->Dp K H (.ref a) (.tuple ds)
inductive ny(K:ZX)(H:Hp):List V->List PyData->Prop
 |nil:ny K H [] []
 |cons {v:V} {vs:List V} {d:PyData} {ds:List PyData}:Dp K H v d->ny K H vs ds->ny K H (v::vs) (d::ds)
end
mutual
theorem Dp.reads(I:Inv X pins σ H s):∀(d:PyData) (v:V) (u:Value),Dp X.K H v d->RelV v u->∃as,Reads s.heap u d as
 |.none,_,_,h,r=>by
  cases h;cases r;exact#[_,Reads.none]
 |.bool b,_,_,h,r=>by
  cases h;cases r;exact#[_,Reads.bool b]
 |.int i,_,_,h,r=>by
  cases h;obtain⟨t,rfl⟩:=r;exact#[_,Reads.int i t]
 |.str x,_,_,h,r=>by
  cases h;obtain⟨t,rfl⟩:=r;exact#[_,Reads.str x t]
 |.list ds,_,_,h,r=>by
  cases h with|lst hs ha=>
   cases r;obtain⟨its,rv,⟨o,n,ho,hc,_,hd⟩,_⟩:=I.list hs;obtain⟨as,hr⟩:=Dp.readsAll I ds _ its ha rv;exact#[_,Reads.list ho hc hd hr]
 |.tuple ds,_,_,h,r=>by
  cases h with|tup hs ha=>
   cases r;obtain⟨its,rv,⟨o,ho,hc,n,hd⟩,_⟩:=I.tuple hs;obtain⟨as,hr⟩:=Dp.readsAll I ds _ its ha rv;exact#[_,Reads.tuple ho hc hd hr]
 |.dict _,_,_,h,_=>by cases h
theorem Dp.readsAll(I:Inv X pins σ H s):∀(ds:List PyData) (vs:List V) (us:List Value),ny X.K H vs ds->Vals vs us->∃as,ReadsAll s.heap us ds as
 |[],_,_,h,r=>by
  cases h;cases r;exact#[_,ReadsAll.nil]
 |d::ds,_,_,h,r=>by
  cases h with|cons h1 h2=>
   cases r with|cons r1 r2=>
    obtain⟨as,q1⟩:=Dp.reads I d _ _ h1 r1;obtain⟨bs,q2⟩:=Dp.readsAll I ds _ _ h2 r2;exact#[_,ReadsAll.cons q1 q2]
end
inductive Nk(K:ZX)(x:V)(y:V)(H:Hp)(Q:VK):Prop|mk(d e:_)(_:Dp K H x d)(_:Dp K H y e)(_:SeqAt.shaped d=true)(_:SeqAt.shaped e=true)(_:Q (.bl (PyData.eqv d e)) H)
inductive Nl(K:ZX)(x:V)(y:V)(H:Hp)(Q:VK):Prop|mk(d e:_)(_:Dp K H x d)(_:Dp K H y e)(_:SeqAt.shaped d=true)(_:SeqAt.shaped e=true)(_:Q (.bl (!PyData.eqv d e)) H)
def Ex(hu:X.A.units+64<cLine):bZ X (compareOp .Eq) (Nk X.K):=by
 intro pins s σ H x y v u Q I rx ry h;obtain⟨d,e,hd,he,sd,se,q⟩:=h;obtain⟨as,r1⟩:=Dp.reads I d x v hd rx;obtain⟨bs,r2⟩:=Dp.reads I e y u he ry;exact SeqAt.compareEq_shaped r1 r2 sd se hu #[.bl _,H,I,rfl,q]
def Nn(hu:X.A.units+64<cLine):bZ X (compareOp .NotEq) (Nl X.K):=by
 intro pins s σ H x y v u Q I rx ry h;obtain⟨d,e,hd,he,sd,se,q⟩:=h;obtain⟨as,r1⟩:=Dp.reads I d x v hd rx;obtain⟨bs,r2⟩:=Dp.reads I e y u he ry;exact SeqAt.compareNe_shaped r1 r2 sd se hu #[.bl _,H,I,rfl,q]
abbrev Ey(h:Heap)(c:Addr)(v:Option Value):Prop:=h.IsCell c v
def Np(scope sc:Scope):Scope:=
 {scope with names:=scope.names.map λ(n,k)=>if(k==.free&&sc.kind==.function&&sc.names.lookup n==some .cell)then(n,.cell)else(n,k)}
def cQ(cells:List (Str×Addr)):List (Str×NameKind)->List (Str×Addr)->List (Str×Addr)
 |[],acc=>acc
 |(n,k)::r,acc=>if k==.free then cQ cells r ((n,(cells.lookup n).getD 0)::acc)else cQ cells r acc
theorem Ez(env:Env)(f:Str×NameKind->List (Str×Addr)->Sem (ForInStep (List (Str×Addr))))
  (hf:∀n k c,f (n,k) c=if k==.free then(do let a<-cellOf env n;pure (.yield ((n,a)::c)))else pure (.yield c)):
  ∀(names:List (Str×NameKind)) (acc:List (Str×Addr)),(∀y∈names,y.2=.free->∃c,env.cells.lookup y.1=some c)->forIn names acc f=pure (cQ env.cells names acc)
 |[],acc,_=>by rw[List.forIn_nil];rfl
 |(n,k)::r,acc,h=>by
  rw[List.forIn_cons,hf];have ih:=λacc=>Ez env f hf r acc λy hy=>h y (X6 _ hy);unfold cQ;by_cases hk:(k==NameKind.free)=true
  .rw[if_pos hk,if_pos hk];obtain⟨c,hc⟩:=h (n,k) Ym (by simpa using hk);have e:cellOf env n=pure c:=by unfold cellOf;rw[hc]
   rw[e];have e2:(env.cells.lookup n).getD 0=c:=by rw[hc];rfl
   rw[e2];exact ih _
  .rw[if_neg hk,if_neg hk];exact ih _
def EA(h:∀y∈scope.names,y.2=.free->∃c,env.cells.lookup y.1=some c):closureFor scope env=pure (cQ env.cells scope.names []):=by
 simp only[closureFor];rw[Ez env _ (λn k c=>rfl) scope.names [] h];rfl
theorem mem_lookup{α:Type}:∀ {l:List (Str×α)} {n:Str} {c:α},(n,c)∈l->∃c',l.lookup n=some c'
 |(k,v)::r,n,c,h=>by
  rw[YK];cases hb:n==k with|true=>exact#[_,rfl]|false=>
   rcases X5.mp h with e|h
   .cases e;simp at hb
   .exact mem_lookup h
theorem rN:∀ {names:List (Str×NameKind)} {acc:List (Str×Addr)} {n:Str} {c:Addr},(n,c)∈cQ cells names acc->(n,c)∈acc\/((n,.free)∈names/\c=(cells.lookup n).getD 0)
 |[],_,_,_,h=>.inl h
 |(m,k)::r,acc,n,c,h=>by
  unfold cQ at h;split at h
  .rename_i hk;have hk:k=.free:=by simpa using hk
   rcases rN h with h|⟨h1,h2⟩
   .rcases X5.mp h with e|h
    .cases e;exact .inr #[hk▸Ym,rfl]
    .exact .inl h
   .exact .inr #[X6 _ h1,h2]
  .rcases rN h with h|⟨h1,h2⟩
   .exact .inl h
   .exact .inr #[X6 _ h1,h2]
theorem yH:∀ {names:List (Str×NameKind)} {acc:List (Str×Addr)} {p:Str×Addr},p∈acc->p∈cQ cells names acc
 |[],_,_,h=>h
 |(m,k)::r,acc,p,h=>by
  unfold cQ;split
  .exact yH (X6 _ h)
  .exact yH h
theorem u5:∀ {names:List (Str×NameKind)} {acc:List (Str×Addr)} {n:Str},(n,.free)∈names->(n,(cells.lookup n).getD 0)∈cQ cells names acc
 |(m,k)::r,acc,n,h=>by
  unfold cQ;rcases X5.mp h with e|h
  .cases e;exact yH Ym
  .split
   .exact u5 h
   .exact u5 h
theorem rO:∀ {names:List (Str×NameKind)} {h:Heap} {acc:List (Str×Addr)} {x:Str} {c:Addr},(x,c)∈cellsFrom h.objs.size names acc->
  (x,c)∈acc\/((x,.cell)∈names/\h.objs.size<=c/\Ey (pushCells h names) c none)
 |[],_,_,_,_,h=>.inl h
 |(n,k)::r,h,acc,x,c,hm=>by
  unfold cellsFrom at hm;unfold pushCells;split at hm
  .rename_i hk;rw[if_pos hk];have hk:k=.cell:=by simpa using hk
   rw[<-Heap.size_push h {cls:=.type "cell",data:=.cell none}]at hm;rcases rO hm with hm|⟨h1,h2,h3⟩
   .rcases X5.mp hm with e|hm
    .cases e;exact .inr #[hk▸Ym,X0 _,_,pushCells_keeps r _ _ _ (Heap.get?_push_size _ rfl),rfl]
    .exact .inl hm
   .rw[Heap.size_push]at h2;exact .inr #[X6 _ h1,Z0 h2,h3]
  .rename_i hk;rw[if_neg hk];rcases rO hm with hm|⟨h1,h2,h3⟩
   .exact .inl hm
   .exact .inr #[X6 _ h1,h2,h3]
theorem u6:∀ {names:List (Str×NameKind)} {n:Nat} {acc:List (Str×Addr)} {p:Str×Addr},p∈acc->p∈cellsFrom n names acc
 |[],_,_,_,h=>h
 |(m,k)::r,n,acc,p,h=>by
  unfold cellsFrom;split
  .exact u6 (X6 _ h)
  .exact u6 h
theorem yI:∀ {names:List (Str×NameKind)} {n:Nat} {acc:List (Str×Addr)} {x:Str},(x,.cell)∈names->∃c,(x,c)∈cellsFrom n names acc
 |(m,k)::r,n,acc,x,h=>by
  unfold cellsFrom;rcases X5.mp h with e|h
  .cases e;exact#[n,u6 Ym]
  .split
   .exact yI h
   .exact yI h
theorem yJ:∀ {names:List (Str×NameKind)} {h:Heap} {acc:List (Str×Addr)} {x y:Str} {c:Addr},(∀p∈acc,p.2<h.objs.size)->(∀x y c,(x,c)∈acc->(y,c)∈acc->x=y)->
  (x,c)∈cellsFrom h.objs.size names acc->(y,c)∈cellsFrom h.objs.size names acc->x=y
 |[],_,_,_,_,_,_,hi,h1,h2=>hi _ _ _ h1 h2
 |(n,k)::r,h,acc,x,y,c,hl,hi,h1,h2=>by
  unfold cellsFrom at h1 h2;split at h1
  .rename_i hk;rw[if_pos hk]at h2;rw[<-Heap.size_push h {cls:=.type "cell",data:=.cell none}]at h1 h2;refine yJ (h:=h.push _) (λp hp=>?_) (λx y c a b=>?_) h1 h2
   .rw[Heap.size_push];rcases X5.mp hp with rfl|hp
    .exact aat _
    .exact YT (hl p hp)
   .rcases X5.mp a with e|a<;>rcases X5.mp b with e'|b
    .cases e;cases e';rfl
    .cases e;exact absurd (hl _ b) (YL _)
    .cases e';exact absurd (hl _ a) (YL _)
    .exact hi _ _ _ a b
  .rename_i hk;rw[if_neg hk]at h2;exact yJ hl hi h1 h2
def Nq{E:ZJ}{globals:Addr}{closure:List (Str×Addr)}{qual:Str}{func:Option Addr}{code:Value}{around:Env}{builtins:Addr}{Q:Env->Shared->Prop}
  (h:Q (newEnv scope s.heap.objs.size globals (cellsFrom (s.heap.objs.size+1) scope.names closure) qual func code (some around) builtins)
   {s with heap:=pushCells (s.heap.push {cls:=.type "dict",data:=.dict #[]}) scope.names}):
  wpAny M A (newFunctionEnv scope globals closure [] qual func code (some around) builtins) Q E s:=by
 simp only[newFunctionEnv,Option.isSome_some,if_true];refine wpAny_bind (wpAny_alloc ?_);refine wpAny_bind (wpAny_layCells _ (λn k c=>rfl) scope.names closure _ _ ?_);rw[show({s with heap:=s.heap.push {cls:=.type "dict",data:=.dict #[]}}:Shared).heap.objs.size=s.heap.objs.size+1 from Heap.size_push ..];rw[List.forIn_nil];exact wpAny_bind (wpAny_pure (wpAny_pure h))
theorem yK{sc:Scope}:∀ {names:List (Str×NameKind)} {x:Str} {k:NameKind},
  (names.map λ(n,k)=>if(k==NameKind.free&&sc.kind==.function&&sc.names.lookup n==some .cell)then(n,NameKind.cell)else(n,k)).lookup x=some k->
  ∃k',names.lookup x=some k'/\(k=k'\/(k'=.free/\k=.cell))
 |[],_,_,h=>by simp at h
 |(n,k₀)::r,x,k,h=>by
  have ih:=@yK sc r x k;have h':List.lookup x ((if(k₀==NameKind.free&&sc.kind==.function&&sc.names.lookup n==some .cell)=true then(n,NameKind.cell)else(n,k₀))::(r.map _))=some k:=h;cases hx:x==n with
  |true=>
   simp only[YK,hx];by_cases hc:(k₀==NameKind.free&&sc.kind==.function&&sc.names.lookup n==some .cell)=true
   .rw[if_pos hc]at h';simp only[YK,hx]at h';cases h';simp only[Ya,beq_iff_eq]at hc;exact#[k₀,rfl,.inr #[hc.1.1,rfl]]
   .rw[if_neg hc]at h';simp only[YK,hx]at h';cases h';exact#[_,rfl,.inl rfl]
  |false=>
   simp only[YK,hx];by_cases hc:(k₀==NameKind.free&&sc.kind==.function&&sc.names.lookup n==some .cell)=true
   .rw[if_pos hc]at h';simp only[YK,hx]at h';exact ih h'
   .rw[if_neg hc]at h';simp only[YK,hx]at h';exact ih h'
structure pj(N:List Str)(sc scope:Scope)(own:List (Str×Nat)):Prop where
 kind:scope.kind=.function
 uniq:∀y∈scope.names,scope.names.lookup y.1=some y.2
 ix:∀p∈own,N[p.2]?=some p.1
 free:∀y∈scope.names,y.2=.free->sc.names.lookup y.1=some .cell\/sc.names.lookup y.1=some .free
 own:∀y∈scope.names,y.2=.local\/y.2=.cell->y.1∈own.map (·.1)\/y.1∉N
def wipe(σ:St):List Nat->St
 |[]=>σ
 |v::vs=>(wipe σ vs).set v none
theorem yL(σ:St):∀vs:List Nat,(wipe σ vs).length=σ.length
 |[]=>rfl
 |v::vs=>by unfold wipe;rw[ZR,yL σ vs]
theorem yM{i:Nat}{x:V}:∀ {vs:List Nat},(wipe σ vs)[i]?=some (some x)->σ[i]?=some (some x)/\i∉vs
 |[],h=>#[h,by simp]
 |v::vs,h=>by
  unfold wipe at h;by_cases hi:v=i
  .subst hi;by_cases hv:v<(wipe σ vs).length
   .rw[Zm hv]at h;cases h
   .rw[Yu (by simpa using hv)]at h;cases h
  .rw[Zf hi]at h;obtain⟨h1,h2⟩:=yM h;exact#[h1,by simp only[X5,not_or];exact#[λe=>hi e.symm,h2]]
abbrev Cx.aq(X:Cx)(s:Shared)(H:Hp)(scope:Scope)(cenv:Env)(fp:List Addr):Cx:={X with dm:=s,oY:=H,env:=cenv,outer:=X.stack,ex:=fp,fn:=λx=>scope.names.lookup x==some .cell,pn:=[],xe:=λ_ _=>False}
def Nr{own:List (Str×Nat)}{fp:List Addr}(I:Inv X pins σ H s)(ok:pj X.N X.env.scope scope own)(hN:X.N.Nodup)(hfp:∀b∈fp,cw X pins H b/\b<s.heap.objs.size):
  Inv (X.aq s H scope (compEnvC scope (cellsFrom (s.heap.objs.size+1) scope.names (cQ X.env.cells scope.names [])) s.heap.objs.size X.env) fp) [] (wipe σ (own.map (·.2))) H {s with heap:=pushCells (s.heap.push {cls:=.type "dict",data:=.dict #[]}) scope.names}:=by
 have hfree:∀y∈scope.names,y.2=.free->∃c,X.env.cells.lookup y.1=some c:=λy hy e=>by
  rcases ok.free y hy e with k|k
  .exact I.ok.has _ (.inl k)
  .exact I.ok.has _ (.inr k)
 generalize rP:compEnvC scope (cellsFrom (s.heap.objs.size+1) scope.names (cQ X.env.cells scope.names [])) s.heap.objs.size X.env=cenv;have kp:∀b o,s.heap.get? b=some o->(pushCells (s.heap.push {cls:=.type "dict",data:=.dict #[]}) scope.names).get? b=some o:=λb o e=>pushCells_keeps _ _ _ _ (Heap.get?_push_of_some _ e);have hL:cenv.locals=s.heap.objs.size:=by rw[<-rP];rfl
 have hcl:cenv.cells=cellsFrom (s.heap.objs.size+1) scope.names (cQ X.env.cells scope.names []):=by rw[<-rP];rfl
 have hsc:cenv.scope=Np scope X.env.scope:=by rw[<-rP];rfl
 rw[<-Heap.size_push s.heap {cls:=.type "dict",data:=.dict #[]}]at hcl;have cm:∀ {y c},(y,c)∈cQ X.env.cells scope.names []->X.env.cells.lookup y=some c/\c<s.heap.objs.size:=λ{y c} hm=>by
  rcases rN hm with hm|⟨h1,rfl⟩
  .cases hm
  .obtain⟨c,hc⟩:=hfree _ h1 rfl;rw[hc];obtain⟨w,z⟩:=I.cell _ _ hc;exact#[rfl,z.lt]
 have mem:∀ {y c},cenv.cells.lookup y=some c->(X.env.cells.lookup y=some c/\c<s.heap.objs.size)\/(s.heap.objs.size+1<=c/\Ey (pushCells (s.heap.push {cls:=.type "dict",data:=.dict #[]}) scope.names) c none):=λ{y c} e=>by
  rw[hcl]at e;rcases rO (PySem.mem_of_lookup e)with hm|⟨_,h2,h3⟩
  .exact .inl (cm hm)
  .rw[Heap.size_push]at h2;exact .inr #[h2,h3]
 have look:∀ {y},scope.names.lookup y=some .free->∃c,cenv.cells.lookup y=some c/\X.env.cells.lookup y=some c:=λ{y} hl=>by
  have hy:(y,NameKind.free)∈scope.names:=PySem.mem_of_lookup hl;obtain⟨c',e'⟩:=mem_lookup (u6 (names:=scope.names) (n:=(s.heap.push {cls:=.type "dict",data:=.dict #[]}).objs.size) (u5 (cells:=X.env.cells) (acc:=[]) hy));rw[<-hcl]at e';refine#[c',e',?_];rw[hcl]at e';rcases rO (PySem.mem_of_lookup e')with hm|⟨h1,_,_⟩
  .exact(cm hm).1
  .have:=ok.uniq _ h1;rw[hl]at this;cases this
 have yN:(X.aq s H scope cenv fp).Ok:=by
  refine#[I.ok.mod,by show cenv.scope.kind=_;rw[hsc];exact ok.kind,by show cenv.globals=_;rw[<-rP];exact I.ok.glob,by show cenv.builtins=_;rw[<-rP];exact I.ok.blt,by show s.heap.objs.size<=cenv.locals;rw[hL];exact X0 _,
   λy z c e1 e2=>?_,λy hy=>?_,λy c z e=>?_,I.ok.hd,I.ok.frames,.inl rfl,λb hb=>#[?_,λy c e z=>?_],I.bs,X8 I.ok.iF I.sz,λb o e hb=>?_,λb hb z=>?_,I.stack,I.xW]
  .have e1:cenv.cells.lookup y=some c:=e1;have e2:cenv.cells.lookup z=some c:=e2;rw[hcl]at e1 e2;refine yJ (λp hp=>?_) (λy z c a b=>I.ok.inj y z c (cm a).1 (cm b).1) (PySem.mem_of_lookup e1) (PySem.mem_of_lookup e2);rw[Heap.size_push];exact YT (cm (y:=p.1) (c:=p.2) hp).2
  .show ∃c,cenv.cells.lookup y=some c;have key:∀k,cenv.kindOf y=some k->(k=.cell\/k=.free)->∃c,cenv.cells.lookup y=some c:=λk hk hk'=>by
    unfold Env.kindOf at hk;rw[hsc]at hk;obtain⟨k',e,r⟩:=yK hk;have:k'=.cell\/k'=.free:=by
     rcases r with rfl|⟨rfl,_⟩
     .exact hk'
     .exact .inr rfl
    rcases this with rfl|rfl
    .obtain⟨c,hm⟩:=yI (n:=(s.heap.push {cls:=.type "dict",data:=.dict #[]}).objs.size) (acc:=cQ X.env.cells scope.names []) (PySem.mem_of_lookup e);obtain⟨c',e'⟩:=mem_lookup hm;exact#[c',by rw[hcl];exact e']
    .obtain⟨c,h1,_⟩:=look e;exact#[c,h1]
   rcases hy with hy|hy
   .exact key _ hy (.inl rfl)
   .exact key _ hy (.inr rfl)
  .have z:(scope.names.lookup y==some NameKind.cell)=true:=z;have z:scope.names.lookup y=some .cell:=by simpa using z
   have e:cenv.cells.lookup y=some c:=e;rw[hcl]at e;rcases rO (PySem.mem_of_lookup e)with hm|⟨_,h2,_⟩
   .rcases rN hm with hm|⟨h1,_⟩
    .cases hm
    .have q:=ok.uniq _ h1;rw[z]at q;cases q
   .rw[Heap.size_push]at h2;exact Z0 h2
  .show b≠cenv.locals;rw[hL];exact Yj (hfp b hb).2
  .have e:cenv.cells.lookup y=some c:=e;rcases mem e with⟨h1,_⟩|⟨h1,_⟩
   .exact(hfp b hb).1.2.2.2.2.1 y c h1 z
   .have h2:s.heap.objs.size+1<=b:=by rw[<-z];exact h1
    exact absurd (Yf (hfp b hb).2 (Z0 h2)) (YL _)
  .rcases(hfp b hb).1.2.2.2.1 with z|z
   .exact I.ok.rk b o e z
   .exact absurd (Yf (Heap.lt_size e) (X8 I.ok.iF z)) (YL _)
  .rcases X5.mp (I.xV b z)with z|z
   .exact(hfp b hb).1.2.1 z
   .exact(hfp b hb).1.2.2.1 z
 refine#[yN,rfl,I.bare,Un.kept kp,#[λ_=>none,?_,λi y av e1 e2 e3=>?_],λy c e=>?_,?_,λy c e=>?_,λp hp=>?_,I.aJ.kept kp,by rw[yL];exact I.len]
 .show Heap.Ns _ cenv.locals _;rw[hL];exact Heap.Ns.keeps (Heap.Ns.new ..) λb o e=>pushCells_keeps _ _ _ _ e
 .obtain⟨e2,hne⟩:=yM e2;have hfr:scope.names.lookup y=some .free/\(cenv.kindOf y=some .cell\/cenv.kindOf y=some .free):=by
   have key:∀k,cenv.scope.names.lookup y=some k->k=.local\/k=.cell\/k=.free->scope.names.lookup y=some .free/\(cenv.kindOf y=some .cell\/cenv.kindOf y=some .free):=λk hk hk'=>by
    have hk0:=hk;rw[hsc]at hk;obtain⟨k',e,r⟩:=yK hk;have no:¬(k'=.local\/k'=.cell):=λhh=>by
     rcases ok.own _ (PySem.mem_of_lookup e) hh with e'|e'
     .obtain⟨p,hp,hpy⟩:=Yp.mp e';have e3:=ok.ix p hp;have:p.1=y:=hpy;rw[this]at e3;exact hne (Yp.mpr #[p,hp,xX hN e3 e1])
     .exact e' (X_ e1)
    rcases r with rfl|⟨rfl,rfl⟩
    .rcases hk' with rfl|rfl|rfl
     .exact absurd (.inl rfl) no
     .exact absurd (.inr rfl) no
     .exact#[e,.inr hk0]
    .exact#[e,.inl hk0]
   have e3:m5 cenv.scope y:=e3;rcases e3 with e3|e3|e3
   .exact key _ e3 (.inl rfl)
   .exact key _ e3 (.inr (.inl rfl))
   .exact key _ e3 (.inr (.inr rfl))
  obtain⟨m,hn,hl⟩:=I.loc;have yO:m5 X.env.scope y:=(ok.free _ (PySem.mem_of_lookup hfr.1) rfl).elim (λk=>.inr (.inl k)) (λk=>.inr (.inr k));obtain⟨w,r,q⟩:=hl i y av e1 e2 yO;refine#[w,r,.inr #[hfr.2,?_]];obtain⟨c,h1,h2⟩:=look hfr.1;rcases q with⟨k,_⟩|⟨_,c',e',z⟩
  .have k:X.env.scope.names.lookup y=some .local:=k;rcases ok.free _ (PySem.mem_of_lookup hfr.1) rfl with k'|k'<;>rw[show X.env.scope.names.lookup y=_ from k']at k<;>cases k
  .rw[h2]at e';cases e';exact#[c,h1,z.keeps kp]
 .have e:cenv.cells.lookup y=some c:=e;rcases mem e with⟨h1,_⟩|⟨_,z⟩
  .obtain⟨w,z⟩:=I.cell y c h1;exact#[w,z.keeps kp]
  .exact#[_,z]
 .show H cenv.locals=none;rw[hL];exact I.aJ.fresh (X0 _)
 .have e:cenv.cells.lookup y=some c:=e;rcases mem e with⟨h1,_⟩|⟨h1,_⟩
  .exact I.fC y c h1
  .exact I.aJ.fresh (Z0 h1)
 .exact absurd (show p∈([]:ZZ)++[]from hp) (by simp)
theorem Nt{E:ZJ}{D:Addr}{Q:ZJ}(I:Inv X pins σ H s)(hD:H D=some (.lst xs))(hz:xs.length<sizeLine)(r:RelV y v)
  (h:∀s',Inv X pins σ (upd H D (.lst (xs++[y]))) s'->Q .none s'):wpAny (model X.prog X.w) X.A (call (.builtin "list.append") [.ref D,v]) Q E s:=by
 obtain⟨hz',its,n,ri,e⟩:=I.aJ D _ hD;have hl:=ri.length;refine append_at (hsz:=by rw[X3];lia) e λh' sb ho'=>?_;refine h {s with heap:=h'} (I.write (t':=s.toks) (by rw[hD];trivial) (.inl rfl) (λb u hb q=>(sb.2 b hb).trans q) #[_,ho'] #[by rw[XY];exact hz,its++[v],n+1,ri.append (.cons r .nil),?_]);rw[ho'];simp
def u7(X:Cx)(ifs:List Expr)(t:TT):Prop:=
 ∀(pins:ZZ) (s:Shared) (σ:St) (H:Hp) (Q:Bool->Hp->Prop),Inv X pins σ H s->t σ H Q->
  wpAny (model X.prog X.w) X.A (forIn ifs true λc r=>if r=true then do let ok<-isTrue c X.env (eval c X.env);pure (ForInStep.yield ok)else pure (ForInStep.yield r)) (TP X pins σ Q) X.xe s
def nz:TT:=λ_ H Q=>Q true H
def nF:u7 X [] nz:=λ_ _ _ H _ I h=>wpAny_tests_nil #[H,I,h]
def pB{α:Type}{t:Sem α}{Q Q':α->Shared->Prop}{E:ZJ}(h:wpAny M A t Q (λ_ _=>False) s)(hQ:∀a s,Q a s->Q' a s):wpAny M A t Q' E s:=wpAny_mono h hQ λ_ _ z=>False.elim z
def Nu{R:Result->Shared->Prop}{target:Expr}(I:Nat->Shared->Prop)
  (turn:∀n s,I n s->wpAny (model prog w) A (pyNext it) (λr s₁=>match r with
   |none=>R (.ok .next) s₁
   |some v=>wpAny (model prog w) A (letOwnedTupleGo target it v) (λ_ s₁'=>wpAny (model prog w) A (assign target env v) (λ_ s₂=>
     wpAny (model prog w) A (forIn ifs true λc r=>if r=true then do let ok<-isTrue c env (eval c env);pure (ForInStep.yield ok)else pure (ForInStep.yield r)) (λok s₃=>
      if ok=true then wpAny (model prog w) A (eval elt env) (λx s₄=>
       wpAny (model prog w) A (call (.builtin "list.append") [acc,x]) (λ_ s₅=>∃m,m<n/\I m s₅) (notedBy (model prog w) A env λe s'=>R (.error e) s') s₄) (notedBy (model prog w) A env λe s'=>R (.error e) s') s₃
      else ∃m,m<n/\I m s₃) (notedBy (model prog w) A env λe s'=>R (.error e) s') s₂) (notedBy (model prog w) A env λe s'=>R (.error e) s') s₁') (notedBy (model prog w) A env λe s'=>R (.error e) s') s₁) (notedBy (model prog w) A env λe s'=>R (.error e) s') s)
  (n:Nat) (h:I n s):
  codeAny (model prog w) A (.compLoop (.ListComp elt [#[target,iter,ifs,0]] scope pos) 0 it acc env) R s:=by
 refine codeAny_loop rfl I (λn s hI=>?_) n h;show wpAny _ A ((compTurn (.ListComp elt [#[target,iter,ifs,0]] scope pos) 0 it acc env).onRaise (λx=>do noteFrame x env;theTreesLotGoes x)) _ _ s;refine wpAny_noted ?_;rw[compTurn_list];refine wpAny_bind (wpAny_standAt (wpAny_bind (wpAny_mono (turn n s hI) (λr s₁ h₁=>?_) λ_ _ h'=>h')));cases r with|none=>exact wpAny_pure h₁|some v=>
  refine wpAny_bind (wpAny_mono h₁ (λ_ s₁' h₁'=>?_) λ_ _ h'=>h');refine wpAny_bind (wpAny_mono h₁' (λ_ s₂ h₂=>wpAny_bind (wpAny_mono h₂ (λok s₃ h₃=>?_) λ_ _ h'=>h')) λ_ _ h'=>h');cases ok with|false=>exact wpAny_pure #[rfl,h₃]|true=>
   exact wpAny_bind (wpAny_bind (wpAny_mono h₃ (λx s₄ h₄=>wpAny_bind (wpAny_mono h₄ (λ_ s₅ h₅=>wpAny_pure (wpAny_pure #[rfl,h₅])) λ_ _ h'=>h')) λ_ _ h'=>h'))
def rQ(wi:TI)(g:TG)(tt:TT)(te:TE)(vs:List Nat):TE:=λσ H Q=>wi σ H λJ H1=>∀D,H1 D=none->∃W:Nat->Nat->Hp->Prop,(∃m,W 0 m (upd H1 D (.lst [])))/\∀i m H,W i m H->
 (J.stop i H/\Q (.ref D) H)\/(J.go i H/\∃Nx:Hp->Prop,(∀H',Nx H'->∃m',m'<m/\W (i+1) m' H')/\∀x H',J.fD i H x H'->g x (wipe σ vs) H' λσ2 H2=>wipe σ2 vs=wipe σ vs/\tt σ2 H2 λb H3=>
  if b=true then te σ2 H3 λy H4=>∃acc,H4 D=some (.lst acc)/\acc.length<sizeLine/\Nx (upd H4 D (.lst (acc++[y])))else Nx H3)
def EB{Q:VK}{own:List (Str×Nat)}{use:Option (Value->Sem Unit)}{Qf:ZJ}
  (hc:X.calm=true) (hN:X.N.Nodup) (I:Inv X pins σ H s) (hi:PI X tg iter wi) (ok:pj X.N X.env.scope scope own)
  (hg:∀(s:Shared) (H:Hp) (C:Addr) (cl:List (Str×Addr)) (fp:List Addr),PG (X.aq s H scope (compEnvC scope cl C X.env) fp) tg g) (ht:∀(s:Shared) (H:Hp) (C:Addr) (cl:List (Str×Addr)) (fp:List Addr),u7 (X.aq s H scope (compEnvC scope cl C X.env) fp) ifs tt)
  (he:∀(s:Shared) (H:Hp) (C:Addr) (cl:List (Str×Addr)) (fp:List Addr),PE (X.aq s H scope (compEnvC scope cl C X.env) fp) elt te) (hs:∀x,foldedSetIterable iter X.env x=pure x)
  (h:rQ wi g tt te (own.map (·.2)) σ H Q)
  (hRR:∀D C s' m H',Inv X pins σ H' s'->Q (.ref D) H'->s'.heap.Ns C m->cw X pins H' C->compPost (model X.prog X.w) X.A X.xe use Qf (.ref D) C (.ok .next) s'):
  wpAny (model X.prog X.w) X.A (comprehension (.ListComp elt [#[tg,iter,ifs,0]] scope pos) scope X.env pos' (newList []) false (eval iter X.env) use) Qf X.xe s:=by
 have hfree:∀y∈scope.names,y.2=.free->∃c,X.env.cells.lookup y.1=some c:=λy hy e=>by
  rcases ok.free y hy e with k|k
  .exact I.ok.has _ (.inl k)
  .exact I.ok.has _ (.inr k)
 refine wpAny_comprehension_free (use:=use) rfl hs (EA hfree) ok.kind (λy hy e=>by rw[ok.uniq y hy,e])
  (aN (hi pins s σ H _ I h) λxv s1 hx=>aN hx λitv s2 h2=>?_)
 obtain⟨it,fp,tn,J,H2,e,I2,T,st2,f2,q⟩:=h2;subst e;refine wpAny_newObj_type (Nq ?_) (by show 0<=sizeLine;decide);generalize hD:s2.heap.objs.size=D;have Nv:H2 D=none:=I2.aJ.fresh (aab hD);obtain⟨W,⟨m0,w0⟩,turn⟩:=q D Nv;generalize hs3:({s2 with heap:=s2.heap.push {cls:=.type "list",data:=.seq ([]:List Value).toArray}}:Shared)=s3;have I3:Inv X pins σ (upd H2 D (.lst [])) s3:=by
  rw[<-hs3];refine I2.laid (t':=s2.toks) (λb o e=>Heap.get?_push_of_some _ e) (aab hD) #[Yg _,[],0,.nil,?_];rw[<-hD];exact Heap.get?_push_size _ rfl
 have h3:s3.heap=s2.heap.push {cls:=.type "list",data:=.seq ([]:List Value).toArray}:=by rw[<-hs3]
 have sz:∀b∈fp,b<s2.heap.objs.size:=λb hb=>by
  obtain⟨o,e,_⟩:=T.obj _ _ st2 b hb;exact Heap.lt_size e
 have f3:∀b∈fp,cw X pins (upd H2 D (.lst [])) b/\b<s3.heap.objs.size:=λb hb=>by
  have hlt:=sz b hb;refine#[#[?_,(f2 b hb).2],by rw[h3,Heap.size_push];exact YT hlt];rw[ae (by rw[<-hD];exact Yj hlt)];exact(f2 b hb).1
 have st3:tn 0 s3.heap:=T.keep _ _ _ st2 λb _ o e=>by rw[h3];exact Heap.get?_push_of_some _ e
 have I4:=Nr I3 ok hN f3;have pg:=hg s3 (upd H2 D (.lst [])) s3.heap.objs.size (cellsFrom (s3.heap.objs.size+1) scope.names (cQ X.env.cells scope.names [])) fp;have pt:=ht s3 (upd H2 D (.lst [])) s3.heap.objs.size (cellsFrom (s3.heap.objs.size+1) scope.names (cQ X.env.cells scope.names [])) fp;have pe:=he s3 (upd H2 D (.lst [])) s3.heap.objs.size (cellsFrom (s3.heap.objs.size+1) scope.names (cQ X.env.cells scope.names [])) fp;show codeAny _ _ (.compStart (.ListComp elt [#[tg,iter,ifs,0]] scope pos) 0 (.ref it) (.ref D) (compEnvC scope (cellsFrom (s3.heap.objs.size+1) scope.names (cQ X.env.cells scope.names [])) s3.heap.objs.size X.env)) (compPost (model X.prog X.w) X.A X.xe use Qf (.ref D) s3.heap.objs.size) {s3 with heap:=pushCells (s3.heap.push {cls:=.type "dict",data:=.dict #[]}) scope.names};have EC:∀b∈fp,(upd H2 D (.lst [])) b=none:=λb hb=>(f3 b hb).1.1;generalize hce:compEnvC scope (cellsFrom (s3.heap.objs.size+1) scope.names (cQ X.env.cells scope.names [])) s3.heap.objs.size X.env=ce at I4 pg pt pe ⊢;have cL:ce.locals=s3.heap.objs.size:=by subst hce;rfl
 generalize Xd:upd H2 D (.lst [])=H3 at I3 I4 pg pt pe w0 EC f3;generalize u9:({s3 with heap:=pushCells (s3.heap.push {cls:=.type "dict",data:=.dict #[]}) scope.names}:Shared)=s4 at I4 ⊢;have st4:tn 0 s4.heap:=T.keep _ _ _ st3 λb _ o e=>by rw[<-u9];exact pushCells_keeps _ _ _ _ (Heap.get?_push_of_some _ e)
 have stat:∀ {σ':St} {H':Hp} {s':Shared},Inv (X.aq s3 H3 scope ce fp) [] σ' H' s'->(∀b∈fp,H' b=none)->∀b∈fp,cw (X.aq s3 H3 scope ce fp) [] H' b:=λ{σ' H' s'} I' hn b hb=>
  #[hn b hb,(I'.ok.uC b hb).1,I'.ok.oZ b hb,.inl hb,λx c e=>(I'.ok.uC b hb).2 x c e,λp hp=>absurd (show p∈([]:ZZ)++[]from hp) (by simp)]
 have loop:codeAny (model X.prog X.w) X.A (.compLoop (.ListComp elt [#[tg,iter,ifs,0]] scope pos) 0 (.ref it) (.ref D) ce) (compPost (model X.prog X.w) X.A X.xe use Qf (.ref D) s3.heap.objs.size) s4:=by
  refine Nu (λn s'=>aX λi H'=>Inv (X.aq s3 H3 scope ce fp) [] (wipe σ (own.map (·.2))) H' s'/\tn i s'.heap/\(∀b∈fp,H' b=none)/\W i n H') ?_ m0 #[0,H3,I4,st4,EC,w0];rintro n s5 ⟨i,H5,I5,st5,n5,w5⟩;rcases turn i n H5 w5 with⟨stop,qq⟩|⟨go,Nx,Nw,step⟩
  .have td:=T.done (X.aq s3 H3 scope ce fp) rfl rfl rfl hc i [] s5 _ H5 (λ_ _=>False) I5 (stat I5 n5) st5 stop;refine pB td λr s6 ⟨hr,I6⟩=>?_;subst hr;have I7:Inv X pins σ H5 s6:=I3.Li (ch:=fp) I6.os I6.base I6.aJ I6.bare λb hb=>#[(f3 b hb).1.2.2.2.1,(f3 b hb).1.2.1,(f3 b hb).1.2.2.2.2.1,(f3 b hb).1.2.2.2.2.2]
   have nC:H5 s3.heap.objs.size=none:=by
    have z:H5 ce.locals=none:=I6.free;rw[cL]at z;exact z
   obtain⟨m,hn,_⟩:=I6.loc;have hn:s6.heap.Ns ce.locals m:=hn;rw[cL]at hn;exact hRR D s3.heap.objs.size s6 m H5 I7 qq hn (I3.iH (X0 _) nC)
  .have ti:=T.item (X.aq s3 H3 scope ce fp) rfl rfl rfl hc i [] s5 _ H5 (λ_ _=>False) I5 (stat I5 n5) st5 go;refine pB ti λr s6 ⟨u,hr,h6⟩=>?_;subst hr;refine pB h6 λ_ s7 ⟨x,H7,I7,r7,y7,yP,n7⟩=>?_;have Ny:=I7.pinned (stat I7 n7) (T.obj _ _ yP);refine pB (pg _ s7 _ H7 x u _ Ny r7 (step x H7 y7)) λ_ s8 ⟨σ8,H8,I8,ED,q8⟩=>?_;refine pB (pt _ s8 σ8 H8 _ I8 q8) λb s9 ⟨H9,I9,q9⟩=>?_;have fin:∀ {s':Shared} {H':Hp},Inv (X.aq s3 H3 scope ce fp) ([]++rC fp s7.heap) σ8 H' s'->Nx H'->∃m,m<n/\aX λi H'=>Inv (X.aq s3 H3 scope ce fp) [] (wipe σ (own.map (·.2))) H' s'/\tn i s'.heap/\(∀b∈fp,H' b=none)/\W i m H':=λ{s' H'} I' nx=>by
    obtain⟨m',hm,w'⟩:=Nw H' nx;have EE:∀b∈fp,∀o,s7.heap.get? b=some o->s'.heap.get? b=some o/\H' b=none:=λb hb o e=>
     let z:=I'.pin (b,o) (Yo _ (Yo _ (yb hb e)))
     #[z.1,z.2.1]
    have hl:(wipe σ (own.map (·.2))).length=σ8.length:=by rw[<-ED,yL]
    refine#[m',hm,i+1,H',(I'.ng (pins:=[])).weak hl (λj v e=>?_),T.keep _ _ _ yP λb hb o e=>(EE b hb o e).1,λb hb=>?_,w']
    .rw[<-ED]at e;exact(yM e).1
    .obtain⟨o,e,_⟩:=T.obj _ _ yP b hb;exact(EE b hb o e).2
   cases b with
   |false=>
    simp only[Y_,if_false]at q9 ⊢;exact fin I9 q9
   |true=>
    simp only[if_true]at q9 ⊢;refine pB (pe _ s9 σ8 H9 _ I9 q9) λz yQ ⟨yv,Nz,NA,r10,acc,NB,NC,nx⟩=>?_;exact Nt (X:=X.aq s3 H3 scope ce fp) NA NB NC r10 λXe ND=>fin ND nx
 exact codeAny_compStart_list loop (T.self X.A 0 _ _ _ st4 loop)
def rR{own:List (Str×Nat)}(hc:X.calm=true)(hN:X.N.Nodup)(hi:PI X tg iter wi)(ok:pj X.N X.env.scope scope own)
  (hg:∀(s:Shared) (H:Hp) (C:Addr) (cl:List (Str×Addr)) (fp:List Addr),PG (X.aq s H scope (compEnvC scope cl C X.env) fp) tg g) (ht:∀(s:Shared) (H:Hp) (C:Addr) (cl:List (Str×Addr)) (fp:List Addr),u7 (X.aq s H scope (compEnvC scope cl C X.env) fp) ifs tt)
  (he:∀(s:Shared) (H:Hp) (C:Addr) (cl:List (Str×Addr)) (fp:List Addr),PE (X.aq s H scope (compEnvC scope cl C X.env) fp) elt te) (hs:∀x,foldedSetIterable iter X.env x=pure x:=by intro _;rfl):
  PE X (.ListComp elt [#[tg,iter,ifs,0]] scope pos) (rQ wi g tt te (own.map (·.2))):=by
 intro pins s σ H Q I h;rw[eval_ListComp];refine EB hc hN I hi ok hg ht he hs h λD C s' m H' I' q hn f=>#[m,hn,λh'' sb=>?_]
 obtain⟨f0,f1,f2,f3,f4,f5⟩:=f;exact#[.ref D,H',I'.turned (t':=s'.toks) (λb o hb e=>(sb.2 b hb).trans e) f0 f1 f3 f4 f5,rfl,q]
def EF{i:Nat}{y:Str}{own:List (Str×Nat)}{spos:Pos}(hc:X.calm=true)(hN:X.N.Nodup)(hy:X.N[i]?=some y)(hyl:X.env.scope.names.lookup y=some .local)
  (hsw:swapsWith (.ListComp elt [#[tg,iter,ifs,0]] scope pos) (some (.Name y py)) spos.line X.env=pure true) (hi:PI X tg iter wi) (ok:pj X.N X.env.scope scope own)
  (hg:∀(s:Shared) (H:Hp) (C:Addr) (cl:List (Str×Addr)) (fp:List Addr),PG (X.aq s H scope (compEnvC scope cl C X.env) fp) tg g) (ht:∀(s:Shared) (H:Hp) (C:Addr) (cl:List (Str×Addr)) (fp:List Addr),u7 (X.aq s H scope (compEnvC scope cl C X.env) fp) ifs tt)
  (he:∀(s:Shared) (H:Hp) (C:Addr) (cl:List (Str×Addr)) (fp:List Addr),PE (X.aq s H scope (compEnvC scope cl C X.env) fp) elt te) (hs:∀x,foldedSetIterable iter X.env x=pure x:=by intro _;rfl):
  PS X (.Assign [.Name y py] (.ListComp elt [#[tg,iter,ifs,0]] scope pos) spos) (uJ (rQ wi g tt te (own.map (·.2))) (m9 i)):=by
 intro pins s σ H D I h;rw[exec_Assign_Name_used _ _ _ _ hsw];refine wpAny_bind (wpAny_standAt (wpAny_bind ?_));show wpAny _ X.A (do let _<-comprehension (.ListComp elt [#[tg,iter,ifs,0]] scope pos) scope X.env (firstIterPos [#[tg,iter,ifs,0]] pos) (newList []) false (eval iter X.env) (some (assign (.Name y py) X.env))) _ _ s;have h:rQ wi g tt te (own.map (·.2)) σ H (λx H1=>m9 i x σ H1 D.nx):=h;refine wpAny_bind (aN (EB (Qf:=λ_ s'=>SP X pins D .next s') hc hN I hi ok hg ht he hs h λL C s' m H' I' q hn f=>?_) λ_ s' hq=>wpAny_pure (wpAny_pure hq));show wpAny _ _ (assign (.Name y py) X.env (.ref L)) _ _ _;refine wpAny_assign_Name (Dr (v:=V.ref L) I' hN hy (.inl hyl) rfl (λs2 I2 ⟨a,sb,ha⟩=>?_) (.inr hyl));obtain⟨f0,f1,f2,f3,f4,f5⟩:=f;have haC:C≠a:=by
  rcases ha with z|z
  .rw[z];exact f1
  .exact λe=>f4 y a z e.symm
 refine#[m,hn.sameBut sb haC,λh3 NF=>?_];exact#[_,H',I2.turned (t':=s2.toks) (λb o hb e=>(NF.2 b hb).trans e) f0 f1 f3 f4 f5,q]
def EG{gs:List Comprehension}{y:Str}{l:Nat}(hk:env.scope.kind=.function)(hy:env.scope.names.lookup y=some .local)(hl:(py.line==pos.line)=true)
  (ha:(scope.names.any λ(n,k)=>n==y&&(k==.local||k==.cell))=false):swapsWith (.ListComp elt gs scope pos) (some (.Name y py)) l env=pure true:=by
 have ky:env.kindOf y=some .local:=hy;have hb:env.blockKind=.function:=by unfold Env.blockKind;rw[hk];rfl
 unfold swapsWith;simp only[hb,ky,ha,Expr.pos,hl];rfl
def EH(N:List Str)(sc scope:Scope)(own:List (Str×Nat)):Bool:=
 (match scope.kind with|.function=>true|_=>false)&&(scope.names.all λy=>decide (scope.names.lookup y.1=some y.2))&&(own.all λp=>decide (N[p.2]?=some p.1))&&
  (scope.names.all λy=>match y.2 with
   |.free=>(match sc.names.lookup y.1 with|some .cell=>true|some .free=>true|_=>false)
   |.local=>decide (y.1∈own.map (·.1))||decide (y.1∉N)
   |.cell=>decide (y.1∈own.map (·.1))||decide (y.1∉N)
   |_=>true)
def fF{N:List Str}{own:List (Str×Nat)}(h:EH N sc scope own=true):pj N sc scope own:=by
 unfold EH at h;simp only[Ya,YZ,Yx]at h;obtain⟨⟨⟨h1,h2⟩,h3⟩,h4⟩:=h;refine#[?_,h2,h3,λy hy e=>?_,λy hy e=>?_]
 .split at h1
  .assumption
  .cases h1
 .have q:=h4 y hy;simp only[e]at q;split at q<;>first|exact .inl (by assumption)|exact .inr (by assumption)|cases q
 .have q:=h4 y hy;rcases e with e|e<;>(simp only[e,Y6,Yx]at q;exact q)
section
variable{R:Result->Shared->Prop}{t0 i0 t1 i1:Expr}{Xf Xg:List Expr}
end
section
variable{κ:Type}[DecidableEq κ]
def bN(kvs:List (κ×V))(k:κ):Option V:=(kvs.find? λkv=>decide (kv.1=k)).map (·.2)
def putK(kvs:List (κ×V))(k:κ)(v:V):List (κ×V):=
 if(kvs.any λkv=>decide (kv.1=k))=true then kvs.map (λkv=>if kv.1=k then(kv.1,v)else kv)else kvs++[(k,v)]
def jh{p:κ×V}{r:List (κ×V)}{k:κ}(e:p.1=k):bN (p::r) k=some p.2:=by simp[bN,Zg,e]
def ji{p:κ×V}{r:List (κ×V)}{k:κ}(e:¬p.1=k):bN (p::r) k=bN r k:=by simp[bN,Zg,e]
theorem u_(k:κ):∀kvs:List (κ×V),(kvs.any λkv=>decide (kv.1=k))=(bN kvs k).isSome
 |[]=>rfl
 |p::r=>by
  rw[Y9];by_cases e:p.1=k
  .simp only[jh e,Yc e,Bool.true_or,Option.isSome_some]
  .rw[ji e,Yh e,Bool.false_or];exact u_ k r
theorem EI(k j:κ)(y:V):∀kvs:List (κ×V),bN (kvs.map λkv=>if kv.1=k then(kv.1,y)else kv) j=(bN kvs j).map λx=>if j=k then y else x
 |[]=>rfl
 |p::r=>by
  have ih:=EI k j y r;rw[X7];by_cases h:p.1=k
  .rw[if_pos h];by_cases e:p.1=j
   .rw[jh (p:=(p.1,y)) e,jh e,Zo,if_pos (e.symm.trans h)]
   .rw[ji (p:=(p.1,y)) e,ji e,ih]
  .rw[if_neg h];by_cases e:p.1=j
   .rw[jh (p:=p) e,jh e,Zo,if_neg (λz=>h (e.trans z))]
   .rw[ji (p:=p) e,ji e,ih]
theorem EJ(k j:κ)(y:V):∀kvs:List (κ×V),bN kvs k=none->bN (kvs++[(k,y)]) j=if j=k then some y else bN kvs j
 |[],_=>by
  by_cases e:k=j
  .rw[if_pos e.symm];exact jh (p:=(k,y)) e
  .rw[if_neg (λz=>e z.symm)];exact ji (p:=(k,y)) e
 |p::r,hn=>by
  rw[List.cons_append];have hk:¬p.1=k:=λz=>by rw[jh z]at hn;cases hn
  rw[ji hk]at hn;have ih:=EJ k j y r hn;by_cases e:p.1=j
  .rw[jh e,jh e,if_neg (λz=>hk (e.trans z))]
  .rw[ji e,ji e,ih]
def EK(kvs:List (κ×V))(k j:κ)(y:V):bN (putK kvs k y) j=if j=k then some y else bN kvs j:=by
 unfold putK;by_cases a:(kvs.any λkv=>decide (kv.1=k))=true
 .rw[if_pos a,EI];rw[u_]at a;by_cases e:j=k
  .obtain⟨x,hx⟩:=aau.mp a;rw[if_pos e,e,hx,Zo,if_pos rfl]
  .rw[if_neg e];cases bN kvs j with|none=>rfl|some x=>rw[Zo,if_neg e]
 .rw[if_neg a];refine EJ k j y kvs ?_;rw[u_]at a;cases q:bN kvs k with|none=>rfl|some x=>rw[q]at a;exact(a rfl).elim
theorem va(kvs:List (κ×V))(k:κ)(v:V):(putK kvs k v).length<=kvs.length+1:=by
 unfold putK;split
 .rw[XX];lia
 .rw[XY,X2,YD];lia
def e7.EL{u:Option Value}(r:e7 o u):o.isSome=u.isSome:=by
 cases o with
 |none=>cases u with
  |none=>rfl
  |some _=>exact(show False from r).elim
 |some _=>cases u with
  |none=>exact(show False from r).elim
  |some _=>rfl
def KV.val{kvs:List (κ×V)}{vs:List (κ×Value)}(r:KV kvs vs)(k:κ):e7 (bN kvs k) (valueAt vs k):=by
 unfold KV at r
 induction r with|nil=>exact True.intro|@cons p q ps qs h t ih=>
  obtain⟨h1,h2⟩:=h;by_cases e:p.1=k
  .have e':q.1=k:=h1.symm.trans e;have b:valueAt (q::qs) k=some q.2:=by simp[valueAt,Zg,e']
   rw[jh e,b];exact h2
  .have e':¬q.1=k:=λz=>e (h1.trans z);have b:valueAt (q::qs) k=valueAt qs k:=by simp[valueAt,Zg,e']
   rw[ji e,b];exact ih
theorem KV.any{kvs:List (κ×V)}{vs:List (κ×Value)}(r:KV kvs vs)(k:κ):(kvs.any λkv=>decide (kv.1=k))=vs.any λkv=>decide (kv.1=k):=by
 unfold KV at r
 induction r with|nil=>rfl|cons h t ih=>rw[Y9,Y9,ih,h.1]
def KV.yR{kvs:List (κ×V)}{vs:List (κ×Value)}(r:KV kvs vs)(k:κ)(ry:RelV y u):
  KV (kvs.map λkv=>if kv.1=k then(kv.1,y)else kv) (vs.map λkv=>if kv.1=k then(kv.1,u)else kv):=by
 unfold KV at r ⊢
 induction r with|nil=>exact .nil|@cons p q ps qs h t ih=>
  rw[X7,X7];refine .cons ?_ ih;obtain⟨h1,h2⟩:=h;by_cases e:p.1=k
  .rw[if_pos e,if_pos (h1.symm.trans e)];exact#[h1,ry]
  .rw[if_neg e,if_neg (λz=>e (h1.trans z))];exact#[h1,h2]
def KV.put{kvs:List (κ×V)}{vs:List (κ×Value)}(r:KV kvs vs)(k:κ)(ry:RelV y u):KV (putK kvs k y) (stored vs k u):=by
 unfold putK stored;rw[r.any k];by_cases e:(vs.any λkv=>decide (kv.1=k))=true
 .rw[if_pos e,if_pos e];exact r.yR k ry
 .rw[if_neg e,if_neg e];exact Paired.snoc r #[rfl,ry]
theorem KV.length{kvs:List (κ×V)}{vs:List (κ×Value)}(r:KV kvs vs):kvs.length=vs.length:=Paired.length r
end
def rS(r:RelV (kV k) u):(d5 P w).is k u=true:=by
 cases k with|inl i=>obtain⟨t,e⟩:=(show ∃t,u=Value.int i t from r);subst e;exact K6 P w i t|inr x=>obtain⟨t,e⟩:=(show ∃t,u=Value.str x t from r);subst e;exact K7 P w x t
theorem EM:∀ {ks:List Key} {us:List Value},Vals (ks.map kV) us->ItemsAre (d5 P w) ks us
 |[],_,r=>by rw[ZU]at r;cases r;exact .nil
 |k::ks,_,r=>by
  rw[X7]at r;cases r with|cons h t=>exact .cons (rS h) (EM t)
abbrev KT(H:Hp):List (List Key×V)->List (List Key×Addr×Value)->Prop:=Paired λp q=>p.1=q.1/\H q.2.1=some (.tup (p.1.map kV))/\RelV p.2 q.2.2
def KT.val{xs:List (List Key×Addr×Value)}(r:KT H kvs xs)(k:List Key):e7 (bN kvs k) ((atKey xs k).map (·.2)):=by
 induction r with|nil=>exact True.intro|@cons p q ps qs h t ih=>
  obtain⟨h1,_,h2⟩:=h;by_cases e:p.1=k
  .have e':q.1=k:=h1.symm.trans e;have b:atKey (q::qs) k=some q.2:=by simp[atKey,Zg,e']
   rw[jh e,b];exact h2
  .have e':¬q.1=k:=λz=>e (h1.trans z);have b:atKey (q::qs) k=atKey qs k:=by simp[atKey,Zg,e']
   rw[ji e,b];exact ih
def KT.yR{xs:List (List Key×Addr×Value)}(r:KT H kvs xs)(k:List Key)(ry:RelV y u):
  KT H (kvs.map λkv=>if kv.1=k then(kv.1,y)else kv) (xs.map (putAt k u)):=by
 induction r with|nil=>exact .nil|@cons p q ps qs h t ih=>
  rw[X7,X7];refine .cons ?_ ih;obtain⟨h1,h2,h3⟩:=h;unfold putAt;by_cases e:p.1=k
  .rw[if_pos e,if_pos (h1.symm.trans e)];exact#[h1,h2,ry]
  .rw[if_neg e,if_neg (λz=>e (h1.trans z))];exact#[h1,h2,h3]
def KT.put{xs:List (List Key×Addr×Value)}(r:KT H kvs xs)(k:List Key)(hb:H b=some (.tup (k.map kV)))(ry:RelV y u):
  KT H (putK kvs k y) (storedH xs k b u):=by
 have e:(kvs.any λkv=>decide (kv.1=k))=(atKey xs k).isSome:=by
  rw[u_,(r.val k).EL,Option.isSome_map]
 unfold putK storedH;rw[e];by_cases q:(atKey xs k).isSome=true
 .rw[if_pos q,if_pos q];exact r.yR k ry
 .rw[if_neg q,if_neg q];exact Paired.snoc r #[rfl,hb,ry]
def KT.keeps{xs:List (List Key×Addr×Value)}(r:KT H kvs xs)(ht:∀b ys,H b=some (.tup ys)->H' b=some (.tup ys)):KT H' kvs xs:=
 Paired.aY r λ_ _ z=>#[z.1,ht _ _ z.2.1,z.2.2]
section
variable{h:Heap}
def EN{u:HO}(ok:bY P w H h)(e:Rd H a u):cu P w H h a u:=e.ok ok
def yS{kvs:List (Key×V)}(ok:bY P w H h)(e:Rd H a (.dK kvs)):kvs.length<=sizeLine/\(a==sysModules)=false/\∃vs,KV kvs vs/\h.DictOf (d5 P w) a vs:=
 show cu P w H h a (.dK kvs)from EN ok e
def NG{kvs:List (Key×V)}(ok:bY P w H h)(e:H a=some (.dK kvs)):kvs.length<=sizeLine/\(a==sysModules)=false/\∃vs,KV kvs vs/\h.DictOf (d5 P w) a vs:=yS ok (.inl e)
def yT{ks:List Key}(ok:bY P w H h)(e:H a=some (.tup (ks.map kV))):(tupleKind (d5 P w)).is h ks a:=by
 obtain⟨_,its,r,o,h1,h2,n,h3⟩:=(show cu P w H h a (.tup (ks.map kV))from ok a _ e)
 exact#[o,its.toArray,n,h1,h2,h3,by simpa using EM r]
def yU(ok:bY P w H h)(e:Rd H a (.dT kvs)):kvs.length<=sizeLine/\(a==sysModules)=false/\
  ∃xs,KT H kvs xs/\h.DictOfH (tupleKind (d5 P w)) a xs:=by
 obtain⟨z,y,xs,r,o,es,ep,h1,h2,h3,h4,h5⟩:=(show cu P w H h a (.dT kvs)from EN ok e)
 refine#[z,y,xs,r,o,es,ep,h1,h2,h3,h4,λx hx=>?_,h5];have all:∀ {l:List (List Key×V)} {m:List (List Key×Addr×Value)},KT H l m->∀x∈m,(tupleKind (d5 P w)).is h x.1 x.2.1:=by
  intro l m q
  induction q with
  |nil=>intro x hx;exact nomatch hx
  |@cons p q ps qs hq t ih=>
   intro x hx;rcases X5.mp hx with e|hx
   .subst e;exact yT ok (by rw[<-hq.1];exact hq.2.1)
   .exact ih x hx
 exact all r x hx
def NH(ok:bY P w H h)(e:H a=some (.dT kvs)):kvs.length<=sizeLine/\(a==sysModules)=false/\
  ∃xs,KT H kvs xs/\h.DictOfH (tupleKind (d5 P w)) a xs:=yU ok (.inl e)
end
def ma(H:Hp)(a:Addr)(y:V)(r:Option V):Prop:=
 (aX λkvs k=>Rd H a (.dK kvs)/\y=kV k/\r=bN kvs k)\/c8 λkvs k b=>Rd H a (.dT kvs)/\y=.ref b/\H b=some (.tup (k.map kV))/\r=bN kvs k
def pC(H:Hp)(a:Addr)(y v:V)(H':Hp):Prop:=
 (aX λkvs k=>H a=some (.dK kvs)/\y=kV k/\kvs.length<sizeLine/\H'=upd H a (.dK (putK kvs k v)))\/
 c8 λkvs k b=>H a=some (.dT kvs)/\y=.ref b/\H b=some (.tup (k.map kV))/\kvs.length<sizeLine/\H'=upd H a (.dT (putK kvs k v))
def ma.t{k:List Key}(e:H a=some (.dT kvs))(eb:H b=some (.tup (k.map kV))):ma H a (.ref b) (bN kvs k):=.inr #[kvs,k,b,.inl e,rfl,eb,rfl]
def pC.t{k:List Key}{v:V}(e:H a=some (.dT kvs))(eb:H b=some (.tup (k.map kV)))(hl:kvs.length<sizeLine):
  pC H a (.ref b) v (upd H a (.dT (putK kvs k v))):=.inr #[kvs,k,b,e,rfl,eb,hl,rfl]
section
variable{v:V}{E:ZJ}
def Inv.big(I:Inv X pins σ H s):sysModules<s.heap.objs.size:=by
 have h:mainGlobals<s.heap.objs.size:=(I.mod.glob.keeps I.bk).lt;exact aax (by decide) h
def NI{Q:ZJ}(hu:A.units+1<cLine)(I:Inv X pins σ H s)(g:ma H a y (some v))(ry:RelV y u)(h:∀w' s',Inv X pins σ H s'->RelV v w'->Q w' s'):
  wpAny (model X.prog X.w) A (getItem (.ref a) u) Q E s:=by
 rcases g with⟨kvs,k,e,ey,l⟩|⟨kvs,k,b,e,ey,eb,l⟩
 .subst ey;obtain⟨z,hd,vs,rel,dd⟩:=yS I.aJ e;obtain⟨w',hw,fX⟩:=e7.some_of (v:=v) (o:=valueAt vs k) (by rw[l];exact rel.val k);exact wpAny_getItem_of (rS ry) dd.mapOf hw (h w' _ (I.tok _) fX)
 .subst ey;cases(show u=Value.ref b from ry);obtain⟨z,hd,xs,rel,dd⟩:=yU I.aJ e;obtain⟨w',hw,fX⟩:=e7.some_of (v:=v) (o:=(atKey xs k).map (·.2)) (by rw[l];exact rel.val k);obtain⟨p,hp,hp2⟩:=Option.map_eq_some_iff.mp hw;refine wpAny_getItem_heap (tupleKind_room_in1 hu) (yT I.aJ eb) dd hp ?_;rw[hp2];exact h w' _ (I.tok _) fX
def EO{ob:HO}(I:Inv X pins σ H s)(mu:rg (H a))(hs:Heap.SameBut a s.heap h')(he:∃q,h'.get? a=some q)(new:cu X.prog X.w (upd H a ob) h' a ob):
  Inv X pins σ (upd H a ob) {s with heap:=h',toks:=t'}:=
 I.write (x:=a) (e:=a) mu (.inl rfl) (λb q hb z=>(hs.2 b hb).trans z) he new
def NJ{kvs:List (Key×V)}{vs:List (Key×Value)}(z:kvs.length<=sizeLine)(hd:(a==sysModules)=false)(rel:KV kvs vs)(dd:h'.DictOf (d5 P w) a vs):
  cu P w H' h' a (.dK kvs):=#[z,hd,vs,rel,dd]
theorem NK{Q:Unit->Shared->Prop}(hu:A.units+1<cLine)(I:Inv X pins σ H s)(g:pC H a y v H')(ry:RelV y u)(rv:RelV v r)(h:∀s',Inv X pins σ H' s'->Q () s'):
  wpAny (model X.prog X.w) A (setItem (.ref a) u r) Q E s:=by
 rcases g with⟨kvs,k,e,ey,l,eH⟩|⟨kvs,k,b,e,ey,eb,l,eH⟩
 .subst ey eH;obtain⟨z,hd,vs,rel,dd⟩:=NG I.aJ e;have hz:vs.length<=sizeLine:=by rw[<-rel.length];exact z
  have hl:(putK kvs k v).length<=sizeLine:=by have:=va kvs k v;lia
  refine wpAny_setItem_pairs (hsz:=hz) (rS ry) dd λh' vb hs=>h _ ?_;have he:∃q,h'.get? a=some q:=let⟨q,_,_,hq,_⟩:=vb;#[q,hq];exact EO I (by rw[e];exact True.intro) hs he (NJ hl hd (rel.put k rv) vb)
 .subst ey eH;cases(show u=Value.ref b from ry);obtain⟨z,hd,xs,rel,dd⟩:=NH I.aJ e;have hz:xs.length<=sizeLine:=by rw[<-Paired.length rel];exact z
  have hl:(putK kvs k v).length<=sizeLine:=by have:=va kvs k v;lia
  refine wpAny_setItem_heap (hsz:=hz) (tupleKind_room_in1 hu) (yT I.aJ eb) dd λh' vb hs=>h _ ?_;obtain⟨q,es,ep,hq,h2,h3,h4,_,h5⟩:=vb;refine EO I (by rw[e];exact True.intro) hs #[q,hq] #[hl,hd,_,(rel.put k eb rv).keeps λc ys ec=>?_,q,es,ep,hq,h2,h3,h4,h5];rw[ae (K8 ec e (λz=>nomatch z))];exact ec
end
section
variable{kvs:List (Key×V)}{E:ZJ}
end
def yV(i:Expr):Prop:=∀ov iv,subscripted i false ov iv=operate [ov,iv] (getItem ov iv)
def ER{E:ZJ}{slice:Expr}{id:String}{Q:ZJ}
  (hl:typeLookup (.type T) "__getitem__"=pure (some (.builtin id))) (hs:yV slice)
  (h:wpAny (model prog w) A (eval value env) (λo s₁=>wpAny (model prog w) A (eval slice env) (λi s₂=>s₂.TypeIs o T/\wpAny (model prog w) A (getItem o i) Q E s₂) E s₁) E s):
  wpAny (model prog w) A (eval (.Subscript value slice pos) env) Q E s:=by
 refine Subscript_ (wpAny_mono h (λo s₁ h₁=>wpAny_mono h₁ (λi s₂ h₂=>?_) λ_ _ x=>x) λ_ _ x=>x);obtain⟨hT,h₂⟩:=h₂;unfold subscriptTail;refine wpAny_bind ?_;rw[getitemInPython_of_ne hT.not_modules];refine wpAny_bind (wpAny_specialOf hT hl ?_);have fin:wpAny (model prog w) A (subscripted slice false o i) (λr s₃=>wpAny (model prog w) A (letTemporaryGo value o r>>=λ_=>pure r) Q E s₃) E s₂:=by
  rw[hs o i];exact wpAny_operating (wpAny_mono h₂ (λr s₃ h₃=>wpAny_bind (wpAny_letTemporaryGo (wpAny_pure h₃))) λ_ _ x=>x)
 first
  |exact wpAny_pure (wpAny_bind fin)
  |exact wpAny_bind (wpAny_pure (wpAny_bind fin))
  |exact wpAny_bind fin
def NL(I:Inv X pins σ H s)(g:ma H a y o):s.TypeIs (.ref a) "dict":=by
 rcases g with⟨kvs,k,e,_,_⟩|⟨kvs,k,b,e,_,_,_⟩
 .obtain⟨_,_,vs,_,dd⟩:=yS I.aJ e;exact dd.typeIs
 .obtain⟨_,_,xs,_,dd⟩:=yU I.aJ e;exact dd.typeIs
inductive NM(Q:VK)(x:V)(y:V)(H2:Hp):Prop|mk(a v:_)(_:x=.ref a)(_:ma H2 a y (some v))(_:Q v H2)
def NN(td ty:TE):TE:=λσ H Q=>td σ H λx H1=>ty σ H1 λy H2=>NM Q x y H2
def NO(td ty tv:TE):TS:=λD σ H=>tv σ H λv H1=>td σ H1 λx H2=>ty σ H2 λy H3=>∃a,∃H4,x=.ref a/\pC H3 a y v H4/\D.nx σ H4
section
variable{o i:Expr}{tv:TE}
def yW(hu:X.A.units+1<cLine)(ho:PE X o td)(hi:PE X i ty)(hs:yV i):PE X (.Subscript o i pos) (NN td ty):=by
 intro pins s σ H Q I h;refine ER PySem.F.slot_dict_getitem.lookup hs (aN (ho pins s σ H _ I h) λu s1 ⟨x,H1,I1,rx,q1⟩=>aN (hi pins s1 σ H1 _ I1 q1) λiv s2 ⟨y,H2,I2,ry,a,v,ex,g,q2⟩=>?_);subst ex;obtain rfl:u=Value.ref a:=rx;exact#[NL I2 g,NI hu I2 g ry λw' s3 I3 fX=>#[v,H2,I3,fX,q2]]
def ES(hu:X.A.units+1<cLine)(ho:PE X o td)(hi:PE X i ty)(hv:PE X value tv)(hs:swapsWith value (some (.Subscript o i pos')) pos.line X.env=pure false):
  PS X (.Assign [.Subscript o i pos'] value pos) (NO td ty tv):=by
 intro pins s σ H D I h;refine wpAny_Assign_Subscript (aN (hv pins s σ H _ I h) λr s1 ⟨v,H1,I1,rv,q1⟩=>aN (ho pins s1 σ H1 _ I1 q1) λu s2 ⟨x,H2,I2,rx,q2⟩=>aN (hi pins s2 σ H2 _ I2 q2) λiv s3 ⟨y,H3,I3,ry,a,H4,ex,g,q3⟩=>?_) hs;subst ex;obtain rfl:u=Value.ref a:=rx;exact NK hu I3 g ry rv λs4 I4=>#[σ,H4,I4,q3]
end
def NP(h:Heap)(hb:sysModules<h.objs.size):cu P w H (h.push {cls:=.type "dict",data:=.dict #[]}) h.objs.size (.dT []):=
 #[Yg _,beq_eq_false_iff_ne.mpr (Ne.symm (Yj hb)),[],.nil,_,#[],0,Heap.get?_push_size _ rfl,#[rfl,rfl,rfl],rfl,rfl,aaI]
def NQ:TE:=λ_ H Q=>∀p,H p=none->Q (.ref p) (upd H p (.dT []))
def NR:PE X (.Dict [] [] pos) NQ:=λpins s σ H Q I h=>
 wpAny_Dict_empty #[.ref s.heap.objs.size,_,I.laid (a:=s.heap.objs.size) (o:=.dT []) (t':=s.toks) (λ_ _ q=>Heap.get?_push_of_some _ q) (X0 _) (NP s.heap I.big),rfl,h _ (I.aJ.fresh (X0 _))]
section
variable{d:V}{E:ZJ}
end
section
variable{o f:Expr}{tx:TE}
end
section
variable{kvs:List (Key×V)}{E:ZJ}
end
section
variable{E:ZJ}
end
section
variable{E:ZJ}
end
def NS:bootBuiltins "reversed"=some (.type "reversed"):=by decide+kernel
def Inv.NU(I:Inv X pins σ H s)(k:∀b o,b∉ch->s.heap.get? b=some o->h'.get? b=some o)(hf:∀b∈ch,cw X pins H b):Inv X pins σ H {s with heap:=h',toks:=t'}:=by
 have lW:∀b u,H b=some u->b∉ch:=λb u e z=>by
  have q:=(hf b z).1;rw[q]at e;cases e
 refine I.step (g':=s.gens) (d':=s.drawn) (ch:=ch) (λb hb=>#[(hf b hb).2.2.2.1,(hf b hb).2.1,(hf b hb).2.2.2.2.1,(hf b hb).2.2.2.2.2]) (λb o _ _ hc e _=>k b o hc e) (λb o _ _ hc e _=>#[o.slots,k b o hc e])
  (λ_ _ _ _ n=>n) (λb o hc e=>#[o,k b o hc e]) (λ_ _ e=>e) (λ_ _ _ e=>e) (λb ps e=>#[#[],by rw[e];simp]) (λm hm=>?_) (λb u e=>?_) I.bare
 .obtain⟨o,es,ep,ho,r⟩:=hm;exact#[o,es,ep,k _ o (λz=>(hf _ z).2.1 rfl) ho,r]
 .refine(I.aJ b u e).gQ (λc v hc q=>k c v ?_ q) (λ_ q=>q) λ_ _ q=>q;rcases hc with z|z
  .rw[z];exact lW b u e
  .exact lW c _ z
def Inv.yX{T:Addr}{ob:HO}(I:Inv X pins σ H s)(k:∀b o,b∉ch->s.heap.get? b=some o->h'.get? b=some o)(hf:∀b∈ch,cw X pins H b)(hT:s.heap.objs.size<=T)
  (new:cu X.prog X.w (upd H T ob) h' T ob):Inv X pins σ (upd H T ob) {s with heap:=h',toks:=t'}:=by
 have hn:H T=none:=I.aJ.fresh hT;have lW:∀b u,H b=some u->b∉ch:=λb u e z=>by
  have q:=(hf b z).1;rw[q]at e;cases e
 refine I.step (g':=s.gens) (d':=s.drawn) (ch:=ch) (λb hb=>#[(hf b hb).2.2.2.1,(hf b hb).2.1,(hf b hb).2.2.2.2.1,(hf b hb).2.2.2.2.2]) (λb o _ _ hc e _=>k b o hc e) (λb o _ _ hc e _=>#[o.slots,k b o hc e])
  (λb o _ e n=>?_) (λb o hc e=>#[o,k b o hc e]) (λb xs e=>?_) (λb o u e=>?_) (λb ps e=>#[#[],?_]) (λm hm=>?_) (λb u e=>?_) I.bare
 .rw[ae (Yj (Yf (Heap.lt_size e) hT))];exact n
 .rw[ae (bH e hn)];exact e
 .rw[ae (bH e hn)];exact e
 .rw[ae (bH e hn),e];simp
 .obtain⟨o,es,ep,ho,r⟩:=hm;exact#[o,es,ep,k _ o (λz=>(hf _ z).2.1 rfl) ho,r]
 .by_cases hb:b=T
  .subst hb;rw[ab]at e;cases e;exact new
  .rw[ae hb]at e;refine(I.aJ b u e).gQ (λc v hc q=>k c v ?_ q) (λc q=>by rw[ae (bH q hn)];exact q) λc xs q=>by rw[ae (bH q hn)];exact q
   rcases hc with z|z
   .rw[z];exact lW b u e
   .exact lW c _ z
def NV{R:It->Hp->Prop}{J:It}{tn:Nat->Heap->Prop}{tk:Nat}(I:Inv X pins σ H s)(o:Obj)
  (T:Turn X.prog X.w X.K tg J [s.heap.objs.size] s.heap.objs.size tn) (st:tn 0 (s.heap.push o)) (q:R J H):ya X pins σ tg R (.ref s.heap.objs.size) {s with heap:=s.heap.push o,toks:=tk}:=by
 refine#[s.heap.objs.size,[s.heap.objs.size],tn,J,H,rfl,I.kept λb ob e=>Heap.get?_push_of_some _ e,T,st,λb hb=>?_,q];have e:b=s.heap.objs.size:=by simpa using hb
 subst e;exact I.iH (X0 _) (I.aJ.fresh (X0 _))
def nH(K:ZX)(a:Addr)(n:Nat):It:=
 #[λi H=>i<n/\aX λ(xs:List V) (x:V)=>af K H a xs/\xs[n-1-i]?=some x,λi H x H'=>H'=H/\∀xs,af K H a xs->xs[n-1-i]?=some x,λi _=>n<=i]
theorem NW(a it:Addr)(n:Nat):Turn P w K tg (nH K a n) [it] it (λi h=>i<=n/\h.IsRevIter it a ((n:Int)-1-(i:Nat))) where
 mem:=by simp
 obj:=λi h st b hb=>by
  have e:b=it:=by simpa using hb
  subst e;obtain⟨_,o,e,c,d⟩:=st;exact#[o,e,λv z=>by rw[d]at z;cases z]
 keep:=λi h h' st k=>#[st.1,st.2.at λo e=>k it (by simp) o e]
 item:=by
  intro X hP hw hK hc i pins s σ H E I hf st hg;subst hP hw hK;obtain⟨hin,xs,x,hq,hx⟩:=hg;obtain⟨its,rv,p,hz⟩:=I.list hq;obtain⟨u,hu,ru⟩:=rv.get hx;obtain⟨f0,f1,f2,f3,f4,f5⟩:=hf it (by simp);obtain⟨_,hit⟩:=st;have e1:(n:Int)-1-((i:Nat):Int)=((n-1-i:Nat):Int):=by lia
  rw[e1]at hit;refine wpAny_pyNext_rev_item hit p.isList (x:=u) (by simpa using hu) λh' st' sb=>?_;have e2:((n-1-i:Nat):Int)-1=(n:Int)-1-((i+1:Nat):Int):=by lia
  rw[e2]at st';have I1:Inv X pins σ H {s with heap:=h'}:=I.turned (t':=s.toks) (λb o hb e=>(sb.2 b hb).trans e) f0 f1 f3 f4 f5;obtain⟨o,e,c,d⟩:=id st';exact#[u,rfl,uN (s:={s with heap:=h'}) e c d (by decide) #[x,H,I1,ru,#[rfl,λys hy=>by rw[I.o5 hy hq];exact hx],#[hin,st'],λb hb=>(hf b hb).1]]
 done:=by
  intro X hP hw hK hc i pins s σ H E I hf st hg;subst hP hw hK;obtain⟨f0,f1,f2,f3,f4,f5⟩:=hf it (by simp);obtain⟨hin,hit⟩:=st;have hge:n<=i:=hg;have e1:(n:Int)-1-((i:Nat):Int)=-1:=by lia
  rw[e1]at hit;exact wpAny_pyNext_rev_end (I.ok.hd hc) hit λh' eb=>#[rfl,I.turned (t':=s.toks) (λb o hb e=>eb b o hb e) f0 f1 f3 f4 f5]
 self:=λA i s Q E st h=>wpAny_pyIter_revIter st.2 h
inductive NX(K:ZX)(R:It->Hp->Prop)(vs:List V)(H1:Hp):Prop|mk(a:Addr)(xs:List V)(_:vs=[.ref a])(_:af K H1 a xs)(_:R (nH K a xs.length) H1)
def NY(K:ZX)(ta:TA):TI:=λσ H R=>ta σ H λvs H1=>NX K R vs H1
theorem yY(hg:Gl X "reversed")(hm:X.mg "reversed"=none)(ha:PA X [e] ta)(hs:starEach [e] X.env=[(false,eval e X.env)]:=by rfl):PI X tg (.Call (.Name "reversed" p) [e] [] pos) (NY X.K ta):=by
 intro pins s σ H R I h;refine Call_ (ja I hg hm NS (PyProof.Rows.callWith_type1 (aN (ha pos pins s σ H _ I h) λus s1 ⟨vs,H1,I1,r1,q1⟩=>?_) hs rfl));obtain⟨a,xs,e,hq,q⟩:=q1;subst e;cases r1 with|cons r rr=>
  cases rr;cases r;obtain⟨its,rv,p',hz⟩:=I1.list hq;have hl:=rv.length;have e1:((its.toArray.size:Nat):Int)-1=(xs.length:Int)-1-((0:Nat):Int):=by simp only[X3];lia
  refine call_reversed_list p'.isList (wpAny_pyIter_revIter (l:=a) (i:=((its.toArray.size:Nat):Int)-1) #[_,Heap.get?_push_size _ rfl,rfl,rfl] ?_);refine NV (tk:=s1.toks) I1 _ (NW a _ xs.length) #[Yg _,?_] q;rw[<-e1];exact#[_,Heap.get?_push_size _ rfl,rfl,rfl]
section
variable{E:ZJ}
end
section
variable{o:Obj}
end
section
variable{o:Obj}{es:Array DictEntry}{ep:Nat}
end
def yZ(K:ZX)(a:Addr):It:=
 #[λi H=>aX λ(xs:List V) (x:V)=>af K H a xs/\xs[i]?=some x,λi H v H'=>aX λT x=>v=.ref T/\H T=none/\H'=upd H T (.tup [.int (i:Nat),x])/\∀xs,af K H a xs->xs[i]?=some x,λi H=>∃xs:List V,af K H a xs/\xs.length<=i]
theorem NZ{kk:Nat}(a e it:Addr):
  Turn P w K (.Tuple elts kk tpos) (yZ K a) [e,it] e (λi h=>(∃old,IsEnum h e it ((i:Nat):Int) old)/\h.IsListIter it a i/\e≠it) where
 mem:=by simp
 obj:=λi h st b hb=>by
  obtain⟨⟨old,he⟩,⟨o,ho,hc,hd⟩,_⟩:=st;have e':b=e\/b=it:=by simpa using hb
  rcases e' with z|z
  .rw[z];exact#[_,he,λv q=>nomatch q]
  .rw[z];exact#[o,ho,λv q=>by rw[hd]at q;cases q]
 keep:=λi h h' st k=>let⟨⟨old,he⟩,hi,hne⟩:=st;#[#[old,k e (by simp) _ he],hi.at λo q=>k it (by simp) o q,hne]
 item:=by
  intro X hP hw hK hc i pins s σ H E I hf st hg;subst hP hw hK;obtain⟨⟨old,he⟩,hit,hne⟩:=st;obtain⟨xs,x,hq,hx⟩:=hg;obtain⟨its,rv,p,hz⟩:=I.list hq;obtain⟨u,hu,ru⟩:=rv.get hx;have hel:e<s.heap.objs.size:=Heap.lt_size he;have hil:it<s.heap.objs.size:=by obtain⟨_,q,_⟩:=hit;exact Heap.lt_size q
  refine wpAny_pyNext_enum_item he hit p.isList (x:=u) (by simpa using hu) hne λh' ho hit' hT hsz hk=>?_;refine#[_,rfl,wpAny_letOwnedTupleGo_enum (s:={s with heap:=h',toks:=s.toks+1}) ho λh'' he' sb=>?_];have hT2:h''.get? s.heap.objs.size=some {cls:=.type "tuple",data:=.seq [.int i s.toks,u].toArray}:=(sb.2 _ (Zr hel)).trans hT;have new:cu X.prog X.w (upd H s.heap.objs.size (.tup [.int (i:Nat),x])) h'' s.heap.objs.size (.tup [.int (i:Nat),x]):=
   #[by show 2<=sizeLine;decide,[.int i s.toks,u],.cons #[_,rfl] (.cons ru .nil),#[_,hT2,rfl,_,rfl]]
  have I1:Inv X pins σ (upd H s.heap.objs.size (.tup [.int (i:Nat),x])) {s with heap:=h'',toks:=s.toks+1}:=
   I.yX (ch:=[e,it]) (λb ob hb q=>(sb.2 b (λz=>hb (by simp[z]))).trans (hk b ob (λz=>hb (by simp[z])) (λz=>hb (by simp[z])) q)) hf (X0 _) new
  refine#[.ref s.heap.objs.size,_,I1,rfl,#[_,x,rfl,I.aJ.fresh (X0 _),rfl,λys hy=>by rw[I.o5 hy hq];exact hx],#[#[u,?_],hit'.at λo q=>(sb.2 it (Ne.symm hne)).trans q,hne],λb hb=>?_]
  .have e1:((i+1:Nat):Int)=(i:Int)+1:=by lia
   rw[e1];exact he'
  .have hb':b<s.heap.objs.size:=by
    have e':b=e\/b=it:=by simpa using hb
    rcases e' with z|z
    .rw[z];exact hel
    .rw[z];exact hil
   rw[ae (Yj hb')];exact(hf b hb).1
 done:=by
  intro X hP hw hK hc i pins s σ H E I hf st hg;subst hP hw hK;obtain⟨⟨old,he⟩,hit,hne⟩:=st;obtain⟨xs,hq,hx⟩:=hg;obtain⟨its,rv,p,hz⟩:=I.list hq;obtain⟨f0,f1,f2,f3,f4,f5⟩:=hf it (by simp);have hl:=rv.length;exact wpAny_pyNext_enum_end (I.ok.hd hc) he hit p.isList (by simp;lia) λh' eb=>#[rfl,I.turned (t':=s.toks) (λb o hb q=>eb b o hb q) f0 f1 f3 f4 f5]
 self:=λA i s Q E st h=>let⟨⟨_,he⟩,_⟩:=st;wpAny_pyIter_enum he h
inductive N0(K:ZX)(R:It->Hp->Prop)(vs:List V)(H1:Hp):Prop|mk(a xs:_)(_:vs=[.ref a])(_:af K H1 a xs)(_:R (yZ K a) H1)
def N1(K:ZX)(ta:TA):TI:=λσ H R=>ta σ H λvs H1=>N0 K R vs H1
def N2{kk:Nat}(hg:Gl X "enumerate")(hm:X.mg "enumerate"=none)(ha:PA X [e] ta)(hs:starEach [e] X.env=[(false,eval e X.env)]:=by rfl):
  PI X (.Tuple elts kk tpos) (.Call (.Name "enumerate" p) [e] [] pos) (N1 X.K ta):=by
 intro pins s σ H R I h;refine Call_ (ja I hg hm boot_enumerate (PyProof.Rows.callWith_type1 (aN (ha pos pins s σ H _ I h) λus s1 ⟨vs,H1,I1,r1,q1⟩=>?_) hs rfl));obtain⟨a,xs,ex,hq,q⟩:=q1;subst ex;cases r1 with|cons r rr=>
  cases rr;cases r;obtain⟨its,rv,p',hz⟩:=I1.list hq;refine call_enumerate_list p'.isList λh' he hit hsz hk=>wpAny_pyIter_enum he ?_;have I2:Inv X pins σ H1 {s1 with heap:=h'}:=I1.kept (t':=s1.toks) hk;refine#[s1.heap.objs.size+1,[s1.heap.objs.size+1,s1.heap.objs.size],_,_,H1,rfl,I2,NZ a (s1.heap.objs.size+1) s1.heap.objs.size,#[#[.none,he],hit,Z7 _],λb hb=>?_,q];have e':b=s1.heap.objs.size+1\/b=s1.heap.objs.size:=by simpa using hb
  have hle:s1.heap.objs.size<=b:=by
   rcases e' with z|z
   .rw[z];exact Zs _ _
   .rw[z];exact X0 _
  exact I1.iH hle (I1.aJ.fresh hle)
def N3:bootBuiltins "zip"=some (.type "zip"):=by decide+kernel
def y1(K:ZX)(a b:Addr):It:=
 #[λi H=>lT λ(xs ys:List V) (x y:V)=>af K H a xs/\af K H b ys/\xs[i]?=some x/\ys[i]?=some y,
  λi H v H'=>c8 λT x y=>v=.ref T/\H T=none/\H'=upd H T (.tup [x,y])/\(∀xs,af K H a xs->xs[i]?=some x)/\∀ys,af K H b ys->ys[i]?=some y,
  λi H=>aX λ(xs ys:List V)=>af K H a xs/\af K H b ys/\(xs.length<=i\/ys.length<=i)]
theorem N4{kk:Nat}{z TI TO i1 i2:Addr}(D:ZipApart z TI TO i1 i2 a b):
  Turn P w K (.Tuple elts kk tpos) (y1 K a b) [z,TI,TO,i1,i2] z (λi h=>IsZip h z TI TO .none/\IsPair h TI (.ref i1) (.ref i2)/\(aX λx y=>IsPair h TO x y)/\h.IsListIter i1 a i/\h.IsListIter i2 b i) where
 mem:=by simp
 obj:=λi h st c hc=>by
  obtain⟨hz,hTI,⟨x,y,hTO⟩,⟨o1,e1,_,d1⟩,⟨o2,e2,_,d2⟩⟩:=st;have e':c=z\/c=TI\/c=TO\/c=i1\/c=i2:=by simpa using hc
  rcases e' with q|q|q|q|q
  .rw[q];exact#[_,hz,λv q=>nomatch q]
  .rw[q];exact#[_,hTI,λv q=>nomatch q]
  .rw[q];exact#[_,hTO,λv q=>nomatch q]
  .rw[q];exact#[o1,e1,λv q=>by rw[d1]at q;cases q]
  .rw[q];exact#[o2,e2,λv q=>by rw[d2]at q;cases q]
 keep:=λi h h' st k=>by
  obtain⟨hz,hTI,⟨x,y,hTO⟩,h1,h2⟩:=st;exact#[k z (by simp) _ hz,k TI (by simp) _ hTI,#[x,y,k TO (by simp) _ hTO],h1.at λo q=>k i1 (by simp) o q,h2.at λo q=>k i2 (by simp) o q]
 item:=by
  intro X hP hw hK hc i pins s σ H E I hf st hg;subst hP hw hK;obtain⟨hz,hTI,⟨x0,y0,hTO⟩,h1,h2⟩:=st;obtain⟨xs,ys,x,y,pD,pE,hx,hy⟩:=hg;obtain⟨its,rv,p,_⟩:=I.list pD;obtain⟨its2,vc,p2,_⟩:=I.list pE;obtain⟨u,hu,ru⟩:=rv.get hx;obtain⟨u2,hu2,N5⟩:=vc.get hy;have ET:z<s.heap.objs.size:=Heap.lt_size hz;refine wpAny_pyNext_zip_item D hz hTI hTO h1 h2 p.isList p2.isList (x:=u) (y:=u2) (by simpa using hu) (by simpa using hu2) λh' z' N6 h1' h2' hT hsz hk=>?_;refine#[_,rfl,wpAny_letOwnedTupleGo_zip (s:={s with heap:=h'}) z' λh'' z'' sb=>?_];have hT2:h''.get? s.heap.objs.size=some {cls:=.type "tuple",data:=.seq [u,u2].toArray}:=(sb.2 _ (Zr ET)).trans hT;have new:cu X.prog X.w (upd H s.heap.objs.size (.tup [x,y])) h'' s.heap.objs.size (.tup [x,y]):=
   #[by show 2<=sizeLine;decide,[u,u2],.cons ru (.cons N5 .nil),#[_,hT2,rfl,_,rfl]]
  have I1:Inv X pins σ (upd H s.heap.objs.size (.tup [x,y])) {s with heap:=h''}:=
   I.yX (t':=s.toks) (ch:=[z,TI,TO,i1,i2]) (λc o hb q=>(sb.2 c (λq'=>hb (by simp[q']))).trans (hk c o (λq'=>hb (by simp[q'])) (λq'=>hb (by simp[q'])) (λq'=>hb (by simp[q'])) (λq'=>hb (by simp[q'])) q)) hf (X0 _) new
  refine#[.ref s.heap.objs.size,_,I1,rfl,#[_,x,y,rfl,I.aJ.fresh (X0 _),rfl,λl hl=>by rw[I.o5 hl pD];exact hx,λl hl=>by rw[I.o5 hl pE];exact hy],#[z'',?_,#[u,u2,?_],?_,?_],λc hcm=>?_]
  .exact(sb.2 _ D.TIz).trans (hk _ _ D.TIz D.TITO D.TIi1 D.TIi2 hTI)
  .exact(sb.2 _ D.TOz).trans N6
  .exact h1'.at λo q=>(sb.2 _ D.i1z).trans q
  .exact h2'.at λo q=>(sb.2 _ D.i2z).trans q
  .have hlt:c<s.heap.objs.size:=by
    have e':c=z\/c=TI\/c=TO\/c=i1\/c=i2:=by simpa using hcm
    rcases e' with q|q|q|q|q
    .rw[q];exact ET
    .rw[q];exact Heap.lt_size hTI
    .rw[q];exact Heap.lt_size hTO
    .rw[q];obtain⟨_,e1,_⟩:=h1;exact Heap.lt_size e1
    .rw[q];obtain⟨_,e2,_⟩:=h2;exact Heap.lt_size e2
   rw[ae (Yj hlt)];exact(hf c hcm).1
 done:=by
  intro X hP hw hK hc i pins s σ H E I hf st hg;subst hP hw hK;obtain⟨hz,hTI,⟨x0,y0,hTO⟩,h1,h2⟩:=st;obtain⟨xs,ys,pD,pE,hend⟩:=hg;obtain⟨its,rv,p,_⟩:=I.list pD;obtain⟨its2,vc,p2,_⟩:=I.list pE;have l1:=rv.length;have l2:=vc.length;have he:its.toArray[i]?=none\/its2.toArray[i]?=none:=by
   rcases hend with q|q
   .exact .inl (by simp;lia)
   .exact .inr (by simp;lia)
  exact wpAny_pyNext_zip_end (I.ok.hd hc) D hz hTI hTO h1 h2 p.isList p2.isList he λh' hk=>#[rfl,I.NU (t':=s.toks) (ch:=[z,TI,TO,i1,i2]) (λc o hb q=>
   hk c o (λq'=>hb (by simp[q'])) (λq'=>hb (by simp[q'])) (λq'=>hb (by simp[q'])) (λq'=>hb (by simp[q'])) q) hf]
 self:=λA i s Q E st h=>wpAny_pyIter_zip st.1 h
inductive N7(K:ZX)(R:It->Hp->Prop)(vs:List V)(H1:Hp):Prop|mk(a b xs ys:_)(_:vs=[.ref a,.ref b])(_:af K H1 a xs)(_:af K H1 b ys)(_:R (y1 K a b) H1)
def N8(K:ZX)(ta:TA):TI:=λσ H R=>ta σ H λvs H1=>N7 K R vs H1
def N9{e2:Expr}{kk:Nat}(hg:Gl X "zip")(hm:X.mg "zip"=none)(ha:PA X [e,e2] ta)
  (hs:starEach [e,e2] X.env=(false,eval e X.env)::starEach [e2] X.env:=by rfl) (hpl:(backTo pos (starEach [e2] X.env)).any (·.1)=false:=by rfl):
  PI X (.Tuple elts kk tpos) (.Call (.Name "zip" p) [e,e2] [] pos) (N8 X.K ta):=by
 intro pins s σ H R I h;refine Call_ (ja I hg hm N3 (PyProof.Rows.callWith_type1 (aN (ha pos pins s σ H _ I h) λus s1 ⟨vs,H1,I1,r1,q1⟩=>?_) hs hpl));obtain⟨a,b,xs,ys,ex,pD,pE,q⟩:=q1;subst ex;cases r1 with|cons r rr=>
  cases rr with|cons r' rr=>
   cases rr;cases r;cases r';obtain⟨its,rv,p1,_⟩:=I1.list pD;obtain⟨its2,vc,p2,_⟩:=I1.list pE;have la:a<s1.heap.objs.size:=p1.lt;have lb:b<s1.heap.objs.size:=p2.lt;refine call_zip_2 p1.isList p2.isList λh' hz hTI hTO h1 h2 hsz hk=>wpAny_pyIter_zip hz ?_;have I2:Inv X pins σ H1 {s1 with heap:=h'}:=I1.kept (t':=s1.toks) hk;refine#[s1.heap.objs.size+4,[s1.heap.objs.size+4,s1.heap.objs.size+2,s1.heap.objs.size+3,s1.heap.objs.size,s1.heap.objs.size+1],_,_,H1,rfl,I2,N4 (PySem.W.ktu_apart s1.heap.objs.size a b la lb),#[hz,hTI,#[_,_,hTO],h1,h2],λc hcm=>?_,q];have e':c=s1.heap.objs.size+4\/c=s1.heap.objs.size+2\/c=s1.heap.objs.size+3\/c=s1.heap.objs.size\/c=s1.heap.objs.size+1:=by simpa using hcm
   have hle:s1.heap.objs.size<=c:=by
    rcases e' with z|z|z|z|z
    .rw[z];exact Zs _ _
    .rw[z];exact Zs _ _
    .rw[z];exact Zs _ _
    .rw[z];exact X0 _
    .rw[z];exact Zs _ _
   exact I1.iH hle (I1.aJ.fresh hle)
end L2
namespace y3
open PySem PyProof.Rows
theorem N_{x:Int}(k:Nat)(hx:0<=x):Builtin.bitAnd x (2^k-1)=x%2^k:=by
 obtain⟨n,rfl⟩:=Int.eq_ofNat_of_zero_le hx;have hp:0<2^k:=Nat.two_pow_pos k;rw[two_pow_cast];have e:((2^k:Nat):Int)-1=((2^k-1:Nat):Int):=by
  generalize (2:Nat)^k=m at hp
  lia
 rw[e,bitAnd_pp (by lia) (by lia),Yd,Yd,Nat.and_two_pow_sub_one_eq_mod]
 first
  |rfl
  |exact Int.natCast_emod _ _
  |simp
theorem Oa{x y:Int}(hx:0<=x)(hy:0<=y):Builtin.bitOr x y=((x.toNat|||y.toNat:Nat):Int):=by
 have e:=nat_or_add_and x.toNat y.toNat;rw[bitOr_and,bitAnd_pp hx hy]
 lia
end y3
namespace TL
open PySem PySem.Builtin PySem.Builtin.Str PySem.StrLaws
end TL
namespace L2
open PySem PySem.Spec PyProof.Rows
variable{X:Cx}
section
variable{pins:ZZ}{σ:St}{H:Hp}{s:Shared}{Q:VK}
end
section
variable{o e:Expr}{to te:TE}
end
end L2
namespace Ob
open PySem PySem.W PySem.Calls PyProof.Rows
section
variable{prog:Program}{w:World}{A:Around}{E:ZJ}{s:Shared}{K:Frag}
end
end Ob
namespace L2
open PySem PySem.Spec PyProof.Rows
variable{X:Cx}{P Pm:Params}{w:World}{K:ZX}{mg:ZQ}{base h:Heap}{m qual:Str}{st:Stmt}{C a b f:Addr}{fd:FuncData}{N ps:List Str}{j k:Nat}{sp:Sp}{pos:Pos}{H H':Hp}{xs:List V}{A B:List Addr}{v:Value}{ds:List WData}{us vs:List Value}{u:HO}
def inClass(s:Stmt)(j:Nat):Stmt:=match s with
 |.ClassDef _ _ _ body _ _ _ _ _ _ _=>body.getD j (.Pass #[0,0,0,0])
 |_=>.Pass #[0,0,0,0]
def rT(s:Stmt):Arguments:=match s with
 |.FunctionDef _ a _ _ _ _ _ _ _ _=>a
 |_=>{posonlyargs:=[],args:=[],vararg:=none,kwonlyargs:=[],kw_defaults:=[],kwarg:=none,defaults:=[]}
def iM(s:Stmt):List Stmt:=match s with
 |.FunctionDef _ _ b _ _ _ _ _ _ _=>b
 |_=>[]
def cR(s:Stmt):Scope:=match s with
 |.FunctionDef _ _ _ _ _ _ sc _ _ _=>sc
 |_=>{kind:=.function,names:=[],isGenerator:=false,isCoroutine:=false}
abbrev fY:lU:=λ_ _ _ _ _ _=>False
abbrev E0:XK:=λ_ _ _=>False
def pF:Passes fY X E0:=λ_ _ _ _ _ _ _ h=>h.elim
structure d_(K:ZX)(x qual:Str)(st:Stmt)(f:Addr)(fd:FuncData):Prop where
 ex:Dk λ(oc:Value) (od:Option Addr) (kV doc pm:Value) (an:Option Addr) (cdv ct:Value) (osl:Array (Option Value))=>
  fd=PySem.W.fnOf x qual (rT st) (iM st) (cR st) .none kV doc pm an cdv ct/\K.lookup f=some #[oc,od,.func fd,osl]/\PySem.W.codeIn K cdv qual=true
 kp:PySem.W.keepIn K (.ref f)=true
section
variable{P:Program}
def d_.ok{x:Str}(F:d_ K x qual st f fd)(S:jc N ps (cR st))(len:∀vs H Q E,sp vs H Q E->vs.length=ps.length)
  (hbody:∀(cdv:Value) (A:Around) (outer:List Env) (s:Shared) (H:Hp) (vs:List V) (Q:VK) (E:XK),bR k (A.deeper (envOfC qual (cR st) s.heap.objs.size f cdv))->sp vs H Q E->
   ∃t,dJ (jd fY P w K mg base N qual (cR st) f cdv A outer s H E).jJ (iM st) t/\t {nx:=λ_ H'=>Q .ay H',rt:=Q} (start N vs) H):eR P w K mg base fY (k+1) f fd ps sp:=by
 obtain⟨oc,od,kV,doc,pm,an,cdv,ct,osl,rfl,lk,hcd⟩:=F.ex;refine Ee lk hcd S len λA outer s H vs Q E hr hsp=>?_;obtain⟨t,h,q⟩:=hbody cdv A outer s H vs Q E hr hsp;exact#[t,h.jJ,q]
def d_.binds{x:Str}(F:d_ K x qual st f fd)
  (h:∀(kV doc pm:Value) (an:Option Addr) (cdv ct:Value) (us:List Value),us.length=ps.length->bindArgs (PySem.W.fnOf x qual (rT st) (iM st) (cR st) .none kV doc pm an cdv ct) #[us,[]]=pure (ps.zip us)):Binds K fd ps []:=by
 obtain⟨oc,od,kV,doc,pm,an,cdv,ct,osl,rfl,lk,hcd⟩:=F.ex;exact .all (h kV doc pm an cdv ct)
def md{x:Str}{oc:Value}{od an:Option Addr}{osl:Array (Option Value)}{kV doc pm cdv ct:Value}(l:K.lookup f=some #[oc,od,.func (PySem.W.fnOf x qual (rT st) (iM st) (cR st) .none kV doc pm an cdv ct),osl])
  (c:PySem.W.codeIn K cdv qual=true) (k:PySem.W.keepIn K (.ref f)=true):d_ K x qual st f (PySem.W.fnOf x qual (rT st) (iM st) (cR st) .none kV doc pm an cdv ct):=#[#[oc,od,kV,doc,pm,an,cdv,ct,osl,rfl,l,c],k]
end
def y4{A:Around}(hr:bR k A):A.units+1<cLine:=Yq (Nat.add_le_add_left (by decide:1<=64) _) hr.units
def pv(i:Nat){x:Str}(hN:X.N[i]?=some x:=by rfl)(hv:m5 X.env.scope x:=by first|exact Or.inl rfl|exact Or.inr (Or.inl rfl)|exact Or.inr (Or.inr rfl))(hd:(x==("__debug__":Str))=false:=by decide)
  (hcd:(x==("__classdict__":Str))=false:=by decide):PE X (.Name x pos) (lX i):=Lj hN hv hd hcd
def g8{A B:Prop}(h:B):if false=true then A else B:=by
 rw[if_neg X9];exact h
def jj{A B:Prop}(h:A):if true=true then A else B:=by
 rw[if_pos rfl];exact h
def bg{c A B:Prop}[Decidable c](h1:c->A)(h2:¬c->B):if c then A else B:=by
 by_cases h:c
 .rw[if_pos h];exact h1 h
 .rw[if_neg h];exact h2 h
def ag(H H':Hp):Prop:=∀b o,H b=some o->H' b=some o
def ag.refl(H:Hp):ag H H:=λ_ _ h=>h
def ag.trans{H1 H2:Hp}(a:ag H H1)(b:ag H1 H2):ag H H2:=λc o h=>b c o (a c o h)
def ag.free(e:ag H H'){l:Addr}(h:H' l=Option.none):H l=Option.none:=by
 cases q:H l with|none=>rfl|some o=>
  rw[e l o q]at h;cases h
def ag.seq(e:ag H H')(h:af K H a xs):af K H' a xs:=by
 rcases h with(h|⟨o,h⟩)|h
 .exact .inl (.inl (e _ _ h))
 .exact .inl (.inr #[o,e _ _ h])
 .exact .inr h
section
variable{κ:Type}[DecidableEq κ]
end
def at_of{z:Int}{v:V}(e:z=(j:Int))(h:xs[j]?=some v):l_ xs z=some v:=by
 rw[e];exact cB h
open PySem.W (WData Codec OpenSpec Well WellAll ReadsW ReadsAllW)
mutual
inductive Dw(K:ZX)(H:Hp):V->WData->Prop
 |ay:Dw K H .ay .none
 |bl (b:Bool):Dw K H (.bl b) (.bool b)
 |int (i:Int):Dw K H (.int i) (.int i)
 |str (x:Str):Dw K H (.str x) (.str x)
 |d6 (b:Array UInt8):Dw K H (.d6 b) (.bytes b.toList)
 |lst {a:Addr} {xs:List V} {ds:List WData}:af K H a xs->g9 K H xs ds->Dw K H (.ref a) (.list ds)
 |tup {a:Addr} {xs:List V} {ds:List WData}:aI K H a xs->g9 K H xs ds->Dw K H (.ref a) (.tuple ds)
inductive g9(K:ZX)(H:Hp):List V->List WData->Prop
 |nil:g9 K H [] []
 |cons {v:V} {vs:List V} {d:WData} {ds:List WData}:Dw K H v d->g9 K H vs ds->g9 K H (v::vs) (d::ds)
end
theorem EU:∀ns:List Int,g9 K H (ns.map V.int) (ns.map WData.int)
 |[]=>.nil
 |n::r=>.cons (.int n) (EU r)
theorem EV:∀(ns:List Int) (xs:List V),g9 K H xs (ns.map WData.int)->xs=ns.map V.int
 |[],xs,h=>by
  cases h;rfl
 |n::r,xs,h=>by
  cases h with|cons h1 h2=>
   cases h1;rw[EV r _ h2]<;>rfl
section
variable{P:Program}{R:PySem.W.WRecords}{cl:Str->Option Addr}
def Oc(aJ:bY P w H h)(KX:K.In h)(q:af K H a xs):c8 λ(its:List Value) (o:Obj) (n:Nat)=>Vals xs its/\h.get? a=some o/\o.cls=.type "list"/\o.data=.seq its.toArray n:=by
 rcases q with q|⟨o,its,n,e,hc,_,hd,_,hv⟩
 .obtain⟨_,its,n,hv,e⟩:=(show cu P w H h a (.lst xs)from q.ok aJ)
  exact#[its,_,n,hv,e,rfl,rfl]
 .exact#[its.toList,o,n,hv,KX _ _ e,hc,by simp[hd]]
def Od(aJ:bY P w H h)(KX:K.In h)(q:aI K H a xs):c8 λ(its:List Value) (o:Obj) (n:Nat)=>Vals xs its/\h.get? a=some o/\o.cls=.type "tuple"/\o.data=.seq its.toArray n:=by
 rcases q with q|⟨o,its,n,e,hc,hd,_,hv⟩
 .obtain⟨_,its,hv,o,e,hc,n,hd⟩:=(show cu P w H h a (.tup xs)from q.ok aJ)
  exact#[its,o,n,hv,e,hc,hd]
 .exact#[its.toList,o,n,hv,KX _ _ e,hc,by simp[hd]]
mutual
theorem Dw.reads(aJ:bY P w H h)(KX:K.In h):∀(d:WData) (v:V) (u:Value),Dw K H v d->RelV v u->∃as,ReadsW R cl h u d as
 |.none,_,_,x,r=>by
  cases x;cases r;exact#[_,ReadsW.none]
 |.bool b,_,_,x,r=>by
  cases x;cases r;exact#[_,ReadsW.bool b]
 |.int i,_,_,x,r=>by
  cases x;obtain⟨t,rfl⟩:=r;exact#[_,ReadsW.int i t]
 |.str s,_,_,x,r=>by
  cases x;obtain⟨t,rfl⟩:=r;exact#[_,ReadsW.str s t]
 |.bytes b,_,_,x,r=>by
  cases x;obtain⟨t,rfl⟩:=r;exact#[_,ReadsW.bytes _ t]
 |.list ds,_,_,x,r=>by
  cases x with|lst hs ha=>
   cases r;obtain⟨its,o,n,rv,ho,hc,hd⟩:=Oc aJ KX hs;obtain⟨as,hr⟩:=Dw.readsAll aJ KX ds _ its ha rv;exact#[_,ReadsW.list ho hc hd hr]
 |.tuple ds,_,_,x,r=>by
  cases x with|tup hs ha=>
   cases r;obtain⟨its,o,n,rv,ho,hc,hd⟩:=Od aJ KX hs;obtain⟨as,hr⟩:=Dw.readsAll aJ KX ds _ its ha rv;exact#[_,ReadsW.tuple ho hc hd hr]
 |.float _,_,_,x,_=>by cases x
 |.dict _,_,_,x,_=>by cases x
 |.bytearray _,_,_,x,_=>by cases x
 |.set _,_,_,x,_=>by cases x
 |.frozenset _,_,_,x,_=>by cases x
 |.obj _ _,_,_,x,_=>by cases x
theorem Dw.readsAll(aJ:bY P w H h)(KX:K.In h):∀(ds:List WData) (vs:List V) (us:List Value),g9 K H vs ds->Vals vs us->∃as,ReadsAllW R cl h us ds as
 |[],_,_,x,r=>by
  cases x;cases r;exact#[_,ReadsAllW.nil]
 |d::ds,_,_,x,r=>by
  cases x with|cons h1 h2=>
   cases r with|cons r1 r2=>
    obtain⟨as,q1⟩:=Dw.reads aJ KX d _ _ h1 r1;obtain⟨bs,q2⟩:=Dw.readsAll aJ KX ds _ _ h2 r2;exact#[_,ReadsAllW.cons q1 q2]
end
end
mutual
def gw:WData->Bool
 |.none=>true
 |.bool _=>true
 |.int _=>true
 |.str _=>true
 |.bytes _=>true
 |.list xs=>iN xs
 |.tuple xs=>iN xs
 |_=>false
def iN:List WData->Bool
 |[]=>true
 |x::r=>gw x&&iN r
end
theorem EW{α:Type}{f:α->WData}(h:∀a,gw (f a)=true):∀l:List α,iN (l.map f)=true
 |[]=>rfl
 |x::r=>by
  show(gw (f x)&&iN (r.map f))=true;rw[h x,EW h r]<;>rfl
theorem mf:∀(c:Codec) (a:c.denote),gw (c.enc a)=true
 |.unit,_=>rfl
 |.bool,_=>rfl
 |.int _ _,_=>rfl
 |.nat _ _,_=>rfl
 |.u8,_=>rfl
 |.bytes _ _,_=>rfl
 |.text _ _ _ _,_=>rfl
 |.list _ _ c,a=>EW (λx=>mf c x) a
 |.pair c d,a=>by
  show(gw (c.enc a.1)&&(gw (d.enc a.2)&&true))=true;rw[mf c a.1,mf d a.2]<;>rfl
 |.triple c d e,a=>by
  show(gw (c.enc a.1)&&(gw (d.enc a.2.1)&&(gw (e.enc a.2.2)&&true)))=true;rw[mf c a.1,mf d a.2.1,mf e a.2.2]<;>rfl
 |.option c,none=>rfl
 |.option c,some x=>mf c x
theorem EX:∀(cs:List Codec) (a:Codec.denoteAll cs),iN (Codec.encAll cs a)=true
 |[],_=>rfl
 |c::cs,a=>by
  show(gw (c.enc a.1)&&iN (Codec.encAll cs a.2))=true;rw[mf c a.1,EX cs a.2]<;>rfl
theorem y6:∀ {xs:List WData} {d:WData},d∈xs->d.weight<=WData.weightAll xs
 |[],d,h=>absurd h (by simp)
 |x::r,d,h=>by
  show d.weight<=x.weight+1+WData.weightAll r;rcases X5.mp h with e|m
  .rw[e]
   lia
  .have z:=y6 m
   lia
def toV:Value->V
 |.none=>.ay
 |.bool b=>.bl b
 |.int i _=>.int i
 |.str x _=>.str x
 |.bytes b _=>.d6 b
 |.ref a=>.ref a
 |_=>.ay
def g_(A:List Addr):Value->Prop
 |.none=>True
 |.bool _=>True
 |.int _ _=>True
 |.str _ _=>True
 |.bytes _ _=>True
 |.ref a=>a∈A
 |_=>False
def g_.mono(h:∀a∈A,a∈B):∀ {u:Value},g_ A u->g_ B u:=λ{u} x=>by
 cases u with|ref a=>exact h a x|none=>trivial|bool b=>trivial|int i t=>trivial|str s t=>trivial|bytes b t=>trivial|_=>exact False.elim x
def Oe{u:Value}(x:g_ A u):RelV (toV u) u:=by
 cases u with|ref a=>rfl|none=>rfl|bool b=>rfl|int i t=>exact#[t,rfl]|str s t=>exact#[t,rfl]|bytes b t=>exact#[t,rfl]|_=>exact False.elim x
theorem pH:∀ {vs:List Value},(∀u∈vs,g_ A u)->Vals (vs.map toV) vs
 |[],_=>.nil
 |u::r,h=>.cons (Oe (h u (Ym ..))) (pH λx hx=>h x (X6 _ hx))
inductive iO(h:Heap)(A:List Addr)(a:Addr):Prop|mk(vs:List Value)(_:vs.length<=sizeLine)(_:(∀u∈vs,g_ A u))(_:(h.get? a=some {cls:=.type "list",data:=.seq vs.toArray}\/h.get? a=some {cls:=.type "tuple",data:=.seq vs.toArray}))
theorem iO.mono(k:∀a∈A,a∈B)(x:iO h A a):iO h B a:=by
 obtain⟨vs,h1,h2,h3⟩:=x;exact#[vs,h1,λu hu=>(h2 u hu).mono k,h3]
theorem vd:∀ {vs:List Value} {ds:List WData},WellAll P h vs ds->vs.length=ds.length
 |_,_,.nil=>rfl
 |_,_,.cons _ b=>by
  show _+1=_+1;rw[vd b]
def EY(x:Well P h v (.list ds)):aX λ(a:Addr) (vs:List Value)=>v=.ref a/\h.get? a=some {cls:=.type "list",data:=.seq vs.toArray}/\WellAll P h vs ds:=by
 cases x with|list ho hall=>exact#[_,_,rfl,ho,hall]
def EZ(x:Well P h v (.tuple ds)):aX λ(a:Addr) (vs:List Value)=>v=.ref a/\h.get? a=some {cls:=.type "tuple",data:=.seq vs.toArray}/\WellAll P h vs ds:=by
 cases x with|tuple ho hall=>exact#[_,_,rfl,ho,hall]
def E1{d:WData}(x:WellAll P h us (d::ds)):aX λ(v:Value) (vs:List Value)=>us=v::vs/\Well P h v d/\WellAll P h vs ds:=by
 cases x with|cons a b=>exact#[_,_,rfl,a,b]
def ve{n:Nat}(h:n<=1048576):n<=sizeLine:=X8 h (by decide)
mutual
theorem Of:∀(d:WData) (v:Value),Well P h v d->gw d=true->d.weight<=1048576->∃A:List Addr,g_ A v/\∀a∈A,iO h A a
 |.none,_,x,_,_=>by
  cases x;exact#[[],trivial,λa m=>absurd m (by simp)]
 |.bool b,_,x,_,_=>by
  cases x;exact#[[],trivial,λa m=>absurd m (by simp)]
 |.int i,_,x,_,_=>by
  cases x;exact#[[],trivial,λa m=>absurd m (by simp)]
 |.str s,_,x,_,_=>by
  cases x;exact#[[],trivial,λa m=>absurd m (by simp)]
 |.bytes b,_,x,_,_=>by
  cases x;exact#[[],trivial,λa m=>absurd m (by simp)]
 |.list ds,_,x,p,z=>by
  obtain⟨a,vs,rfl,ho,hall⟩:=EY x;have z2:WData.weightAll ds<=1048576:=z;obtain⟨A,h1,h2⟩:=vf ds _ hall p λd hd=>X8 (y6 hd) z2;have k:∀b∈A,b∈a::A:=λb hb=>X6 _ hb;refine#[a::A,Ym ..,λb hb=>?_];rcases X5.mp hb with e|m
  .rw[e];exact#[vs,ve (by rw[vd hall];exact X8 (PySem.W.length_le_weightAllW ds) z2),λu hu=>(h1 u hu).mono k,.inl ho]
  .exact(h2 b m).mono k
 |.tuple ds,_,x,p,z=>by
  obtain⟨a,vs,rfl,ho,hall⟩:=EZ x;have z2:WData.weightAll ds<=1048576:=z;obtain⟨A,h1,h2⟩:=vf ds _ hall p λd hd=>X8 (y6 hd) z2;have k:∀b∈A,b∈a::A:=λb hb=>X6 _ hb;refine#[a::A,Ym ..,λb hb=>?_];rcases X5.mp hb with e|m
  .rw[e];exact#[vs,ve (by rw[vd hall];exact X8 (PySem.W.length_le_weightAllW ds) z2),λu hu=>(h1 u hu).mono k,.inr ho]
  .exact(h2 b m).mono k
 |.float _,_,_,p,_=>Bool.noConfusion (show false=true from p)
 |.dict _,_,_,p,_=>Bool.noConfusion (show false=true from p)
 |.bytearray _,_,_,p,_=>Bool.noConfusion (show false=true from p)
 |.set _,_,_,p,_=>Bool.noConfusion (show false=true from p)
 |.frozenset _,_,_,p,_=>Bool.noConfusion (show false=true from p)
 |.obj _ _,_,_,p,_=>Bool.noConfusion (show false=true from p)
theorem vf:∀(ds:List WData) (vs:List Value),WellAll P h vs ds->iN ds=true->(∀d∈ds,d.weight<=1048576)->∃A:List Addr,(∀u∈vs,g_ A u)/\∀a∈A,iO h A a
 |[],_,x,_,_=>by
  cases x;exact#[[],λu m=>absurd m (by simp),λa m=>absurd m (by simp)]
 |d::ds,_,x,p,z=>by
  obtain⟨v,vs,rfl,x1,x2⟩:=E1 x;have q:gw d=true/\iN ds=true:=Bool.and_eq_true_iff.mp p;obtain⟨A,a1,a2⟩:=Of d v x1 q.1 (z d (Ym ..));obtain⟨B,b1,b2⟩:=vf ds vs x2 q.2 λe he=>z e (X6 _ he);have kA:∀b∈A,b∈A++B:=λb hb=>Yr.mpr (.inl hb);have kB:∀b∈B,b∈A++B:=λb hb=>Yr.mpr (.inr hb);refine#[A++B,λu hu=>?_,λb hb=>?_]
  .rcases X5.mp hu with e|m
   .rw[e];exact a1.mono kA
   .exact(b1 u m).mono kB
  .rcases Yr.mp hb with m|m
   .exact(a2 b m).mono kA
   .exact(b2 b m).mono kB
end
def vg(o:Obj):Option HO:=match o.data with
 |.seq vs _=>if(o.cls==Value.type "list")=true then some (.cJ o (.lst (vs.toList.map toV)))else some (.cJ o (.tup (vs.toList.map toV)))
 |_=>none
def cS(K:ZX)(h:Heap)(A:List Addr):Hp:=λb=>if b∈A then(if(K.lookup b).isNone=true then(h.get? b).bind vg else none)else none
def Og(H:Hp):Prop:=∀b,H b=none\/aX λo u=>H b=some (.cJ o u)
def E3(vs:List Value):vg {cls:=.type "list",data:=.seq vs.toArray}=some (.cJ {cls:=.type "list",data:=.seq vs.toArray} (.lst (vs.map toV))):=by
 show(if(Value.type "list"==Value.type "list")=true then some (HO.cJ {cls:=.type "list",data:=.seq vs.toArray} (.lst (vs.toArray.toList.map toV)))else some (HO.cJ {cls:=.type "list",data:=.seq vs.toArray} (.tup (vs.toArray.toList.map toV))))=_;rw[if_pos (beq_self_eq_true _)]
def E4(vs:List Value):vg {cls:=.type "tuple",data:=.seq vs.toArray}=some (.cJ {cls:=.type "tuple",data:=.seq vs.toArray} (.tup (vs.map toV))):=by
 show(if(Value.type "tuple"==Value.type "list")=true then some (HO.cJ {cls:=.type "tuple",data:=.seq vs.toArray} (.lst (vs.toArray.toList.map toV)))else some (HO.cJ {cls:=.type "tuple",data:=.seq vs.toArray} (.tup (vs.toArray.toList.map toV))))=_;rw[if_neg (by decide)]
section
variable{P:Program}
def vh{o:Obj}(hb:b∈A)(hk:K.lookup b=none)(e:h.get? b=some o):cS K h A b=vg o:=by
 unfold cS;rw[if_pos hb,hk,if_pos (show(none:Option Obj).isNone=true from rfl),e]<;>rfl
def Oh(q:cS K h A b=some u):b∈A/\K.lookup b=none:=by
 unfold cS at q;by_cases hb:b∈A
 .rw[if_pos hb]at q;cases hk:K.lookup b with|none=>exact#[hb,rfl]|some o=>
   rw[hk,if_neg (by simp)]at q;cases q
 .rw[if_neg hb]at q;cases q
def vi(ar:∀a∈A,iO h A a)(q:cS K h A b=some u):K.lookup b=none/\∃vs:List Value,vs.length<=sizeLine/\(∀u∈vs,g_ A u)/\
  ((h.get? b=some {cls:=.type "list",data:=.seq vs.toArray}/\u=.cJ {cls:=.type "list",data:=.seq vs.toArray} (.lst (vs.map toV)))\/
   (h.get? b=some {cls:=.type "tuple",data:=.seq vs.toArray}/\u=.cJ {cls:=.type "tuple",data:=.seq vs.toArray} (.tup (vs.map toV)))):=by
 obtain⟨hb,hk⟩:=Oh q;obtain⟨vs,h1,h2,h3⟩:=ar b hb;refine#[hk,vs,h1,h2,?_];rcases h3 with e|e
 .rw[vh hb hk e,E3]at q;exact .inl #[e,(XW q).symm]
 .rw[vh hb hk e,E4]at q;exact .inr #[e,(XW q).symm]
def E5(ar:∀a∈A,iO h A a):Og (cS K h A):=λb=>by
 cases q:cS K h A b with|none=>exact .inl rfl|some u=>
  obtain⟨_,vs,_,_,⟨_,e⟩|⟨_,e⟩⟩:=vi ar q
  .exact .inr #[_,_,by rw[e]]
  .exact .inr #[_,_,by rw[e]]
def Oi(ar:∀a∈A,iO h A a):bY P w (cS K h A) h:=λb u q=>by
 obtain⟨_,vs,h1,h2,⟨e,rfl⟩|⟨e,rfl⟩⟩:=vi ar q
 .exact#[e,by rw[XX];exact h1,vs,_,pH h2,e]
 .exact#[e,by rw[XX];exact h1,vs,pH h2,_,e,rfl,_,rfl]
def vj{c c':Value}(e:(some {cls:=c,data:=.seq vs.toArray}:Option Obj)=some {cls:=c',data:=.seq us.toArray}):c=c'/\vs=us:=by
 have e1:=XW e;have e2:c=c':=congrArg Obj.cls e1;have e3:Data.seq vs.toArray=Data.seq us.toArray:=congrArg Obj.data e1;injection e3 with e4;refine#[e2,?_];have e5:=congrArg Array.toList e4;simpa using e5
def Oj(KX:K.In h)(ar:∀a∈A,iO h A a)(ha:a∈A)(e:h.get? a=some {cls:=.type "list",data:=.seq vs.toArray}):(∀u∈vs,g_ A u)/\af K (cS K h A) a (vs.map toV):=by
 obtain⟨us,h1,h2,h3⟩:=ar a ha;have hu:us=vs:=by
  rcases h3 with q|q
  .rw[e]at q;exact(vj q).2.symm
  .rw[e]at q;exact absurd (Value.type.inj (vj q).1) (by decide)
 subst hu;refine#[h2,?_];cases hk:K.lookup a with|none=>exact .inl (.inr #[_,by rw[vh ha hk e,E3]])|some o=>
  have e2:=KX a o hk;rw[e]at e2;obtain rfl:=XW e2;exact .inr #[_,us.toArray,_,hk,rfl,rfl,rfl,by rw[X3];exact h1,by simpa using pH h2]
def Ol(KX:K.In h)(ar:∀a∈A,iO h A a)(ha:a∈A)(e:h.get? a=some {cls:=.type "tuple",data:=.seq vs.toArray}):(∀u∈vs,g_ A u)/\aI K (cS K h A) a (vs.map toV):=by
 obtain⟨us,h1,h2,h3⟩:=ar a ha;have hu:us=vs:=by
  rcases h3 with q|q
  .rw[e]at q;exact absurd (Value.type.inj (vj q).1) (by decide)
  .rw[e]at q;exact(vj q).2.symm
 subst hu;refine#[h2,?_];cases hk:K.lookup a with|none=>exact .inl (.inr #[_,by rw[vh ha hk e,E4]])|some o=>
  have e2:=KX a o hk;rw[e]at e2;obtain rfl:=XW e2;exact .inr #[_,us.toArray,_,hk,rfl,rfl,by rw[X3];exact h1,by simpa using pH h2]
mutual
theorem Om(KX:K.In h)(ar:∀a∈A,iO h A a):∀(d:WData) (v:Value),Well Pm h v d->gw d=true->g_ A v->Dw K (cS K h A) (toV v) d
 |.none,_,x,_,_=>by
  cases x;exact .ay
 |.bool b,_,x,_,_=>by
  cases x;exact .bl b
 |.int i,_,x,_,_=>by
  cases x;exact .int i
 |.str s,_,x,_,_=>by
  cases x;exact .str s
 |.bytes b,_,x,_,_=>by
  cases x;have z:=Dw.d6 (K:=K) (H:=cS K h A) b.toArray;exact z
 |.list ds,_,x,p,hu=>by
  obtain⟨a,vs,rfl,ho,hall⟩:=EY x;obtain⟨h2,hs⟩:=Oj KX ar hu ho;exact .lst hs (vk KX ar ds _ hall p h2)
 |.tuple ds,_,x,p,hu=>by
  obtain⟨a,vs,rfl,ho,hall⟩:=EZ x;obtain⟨h2,hs⟩:=Ol KX ar hu ho;exact .tup hs (vk KX ar ds _ hall p h2)
 |.float _,_,_,p,_=>Bool.noConfusion (show false=true from p)
 |.dict _,_,_,p,_=>Bool.noConfusion (show false=true from p)
 |.bytearray _,_,_,p,_=>Bool.noConfusion (show false=true from p)
 |.set _,_,_,p,_=>Bool.noConfusion (show false=true from p)
 |.frozenset _,_,_,p,_=>Bool.noConfusion (show false=true from p)
 |.obj _ _,_,_,p,_=>Bool.noConfusion (show false=true from p)
theorem vk(KX:K.In h)(ar:∀a∈A,iO h A a):∀(ds:List WData) (vs:List Value),WellAll Pm h vs ds->iN ds=true->(∀u∈vs,g_ A u)->g9 K (cS K h A) (vs.map toV) ds
 |[],_,x,_,_=>by
  cases x;exact .nil
 |d::ds,_,x,p,hu=>by
  obtain⟨v,vs,rfl,x1,x2⟩:=E1 x;have q:gw d=true/\iN ds=true:=Bool.and_eq_true_iff.mp p;exact .cons (Om KX ar d v x1 q.1 (hu _ (Ym ..))) (vk KX ar ds vs x2 q.2 λu m=>hu u (X6 _ m))
end
end
def Oo(h:WData.layableAll ds=true):∀d∈ds,d.weight<=1048576:=λd hd=>
 (PySem.W.layableW_iff.mp (YZ.mp h d hd)).2.2
theorem E6:∀(cs:List Codec) (a:Codec.denoteAll cs),(Codec.encAll cs a).length=cs.length
 |[],_=>rfl
 |c::cs,a=>by
  show(Codec.encAll cs a.2).length+1=cs.length+1;rw[E6 cs a.2]
inductive bx(K:ZX)(mg:ZQ)(x:Str)(st:Stmt)(ps:List Str):Prop|mk(f fd:_)(_:d_ K x x st f fd)(_:mg x=some (.ref f))(_:Binds K fd ps [])
inductive bI(K:ZX)(C:Addr)(m qual:Str)(st:Stmt)(ps:List Str):Prop|mk(f fd:_)(_:d_ K m qual st f fd)(_:Meth K C m f)(_:Binds K fd ps [])
inductive aH(P:Program)(w:World)(K:ZX)(mg:ZQ)(base:Heap)(k:Nat)(x:Str)(ps:List Str)(sp:Sp):Prop|mk(f fd:_)(_:mg x=some (.ref f))(_:PySem.W.keepIn K (.ref f)=true)(_:Binds K fd ps [])(_:eR P w K mg base fY k f fd ps sp)
def aF(P:Program)(w:World)(K:ZX)(mg:ZQ)(base:Heap)(k:Nat)(C:Addr)(m:Str)(ps:List Str)(sp:Sp):Prop:=
 d9 K C/\aX λf fd=>Meth K C m f/\Binds K fd ps []/\eR P w K mg base fY k f fd ps sp
def fZ(P:Program)(w:World)(K:ZX)(mg:ZQ)(base:Heap)(k:Nat)(x:Str)(C:Addr)(ps:List Str)(sp:Sp):Prop:=
 mg x=some (.ref C)/\aX λf fd=>Mk K C f/\Binds K fd ps []/\eR P w K mg base fY k f fd ps sp
section
variable{P:Program}{x:Str}
abbrev E7(P:Program)(w:World)(K:ZX)(mg:ZQ)(base:Heap)(N:List Str)(qual:Str)(st:Stmt)(k:Nat)(sp:Sp):Prop:=
 ∀(f:Addr) (cdv:Value) (A:Around) (outer:List Env) (s:Shared) (H:Hp) (vs:List V) (Q:VK) (E:XK),bR k (A.deeper (envOfC qual (cR st) s.heap.objs.size f cdv))->sp vs H Q E->
   ∃t,dJ (jd fY P w K mg base N qual (cR st) f cdv A outer s H E).jJ (iM st) t/\t {nx:=λ_ H'=>Q .ay H',rt:=Q} (start N vs) H
def bx.rU(D:bx K mg x st ps)(S:jc N ps (cR st))(len:∀vs H Q E,sp vs H Q E->vs.length=ps.length)(hb:E7 P w K mg base N x st k sp):aH P w K mg base (k+1) x ps sp:=by
 obtain⟨f,fd,F,g,b⟩:=D;exact#[f,fd,g,F.kp,b,F.ok S len λcdv A outer s H vs Q E hr h=>hb f cdv A outer s H vs Q E hr h]
def bI.rU(c:d9 K C)(D:bI K C m qual st ps)(S:jc N ps (cR st))(len:∀vs H Q E,sp vs H Q E->vs.length=ps.length)(hb:E7 P w K mg base N qual st k sp):aF P w K mg base (k+1) C m ps sp:=by
 obtain⟨f,fd,F,g,b⟩:=D;exact#[c,f,fd,g,b,F.ok S len λcdv A outer s H vs Q E hr h=>hb f cdv A outer s H vs Q E hr h]
def d_.go(N:List Str)(F:d_ K x qual st f fd)(hb:∀ {cdv:Value} {A:Around} {outer:List Env} {s:Shared},N.Nodup->∀(H:Hp) (vs:List V) (Q:VK) (E:XK),bR k (A.deeper (envOfC qual (cR st) s.heap.objs.size f cdv))->sp vs H Q E->∃t,dJ (jd fY P w K mg base N qual (cR st) f cdv A outer s H E).jJ (iM st) t/\t {nx:=λ_ H'=>Q .ay H',rt:=Q} (start N vs) H)
  (S:jc N ps (cR st):=by exact#[rfl,rfl,rfl,by decide+kernel,rfl,by decide+kernel,by decide+kernel]) (len:∀vs H Q E,sp vs H Q E->vs.length=ps.length:=by intro _ _ _ _ h;cases h;subst_vars;rfl):eR P w K mg base fY (k+1) f fd ps sp:=F.ok S len λ_ _ _ _=>hb S.nd
def bx.go(N:List Str)(D:bx K mg x st ps)(hb:∀ {f:Addr} {cdv:Value} {A:Around} {outer:List Env} {s:Shared},N.Nodup->∀(H:Hp) (vs:List V) (Q:VK) (E:XK),bR k (A.deeper (envOfC x (cR st) s.heap.objs.size f cdv))->sp vs H Q E->∃t,dJ (jd fY P w K mg base N x (cR st) f cdv A outer s H E).jJ (iM st) t/\t {nx:=λ_ H'=>Q .ay H',rt:=Q} (start N vs) H)
  (S:jc N ps (cR st):=by exact#[rfl,rfl,rfl,by decide+kernel,rfl,by decide+kernel,by decide+kernel]) (len:∀vs H Q E,sp vs H Q E->vs.length=ps.length:=by intro _ _ _ _ h;cases h;subst_vars;rfl):aH P w K mg base (k+1) x ps sp:=D.rU S len λ_ _ _ _ _=>hb S.nd
def bI.go(N:List Str)(D:bI K C m qual st ps)(c:d9 K C)(hb:∀ {f:Addr} {cdv:Value} {A:Around} {outer:List Env} {s:Shared},N.Nodup->∀(H:Hp) (vs:List V) (Q:VK) (E:XK),bR k (A.deeper (envOfC qual (cR st) s.heap.objs.size f cdv))->sp vs H Q E->∃t,dJ (jd fY P w K mg base N qual (cR st) f cdv A outer s H E).jJ (iM st) t/\t {nx:=λ_ H'=>Q .ay H',rt:=Q} (start N vs) H)
  (S:jc N ps (cR st):=by exact#[rfl,rfl,rfl,by decide+kernel,rfl,by decide+kernel,by decide+kernel]) (len:∀vs H Q E,sp vs H Q E->vs.length=ps.length:=by intro _ _ _ _ h;cases h;subst_vars;rfl):aF P w K mg base (k+1) C m ps sp:=D.rU c S len λ_ _ _ _ _=>hb S.nd
end
section
variable{x:Str}{e o:Expr}{es:List Expr}{t:TA}{to:TE}{p apos:Pos}
def bh(c:aH X.prog X.w X.K X.mg X.base k x ps sp)(ha:PA X (e::es) t)(hr:bR j X.A:=by assumption)(hg:Gl X x:=by rfl)(hj:k<=j:=by decide)(hdb:(x==("__debug__":Str))=false:=by decide)
  (he:starEach (e::es) X.env=(false,eval e X.env)::starEach es X.env:=by rfl) (hpl:(backTo pos (starEach es X.env)).any (·.1)=false:=by rfl):PE X (.Call (.Name x p) (e::es) [] pos) (uU sp [] E0 t):=by
 obtain⟨f,fd,a,b,c,d⟩:=c;exact Mp d (hr.mono hj) hg a b c .nil pF ha hdb he hpl
def Oq(c:aH X.prog X.w X.K X.mg X.base k x ps sp)(hr:bR j X.A:=by assumption)(hg:Gl X x:=by rfl)(hj:k<=j:=by decide)(hdb:(x==("__debug__":Str))=false:=by decide):PE X (.Call (.Name x p) [] [] pos) (uU sp [] E0 jb):=by
 obtain⟨f,fd,a,b,c,d⟩:=c;exact Mq d (hr.mono hj) hg a b c .nil pF hdb
def bq{pl:Sem Bool}(c:aF X.prog X.w X.K X.mg X.base k C m ps sp)(ho:PE X o to)(ha:PA X (e::es) t)(hr:bR j X.A:=by assumption)(hj:k<=j:=by decide)(hst:starEach (e::es) X.env=(false,eval e X.env)::starEach es X.env:=by rfl)
  (hpl:(backTo pos (starEach es X.env)).any (·.1)=false:=by rfl)
  (ht:eval (.Call (.Attribute o m apos) (e::es) [] pos) X.env=(do
   let ov<-eval o X.env
   standAt apos.atName
   let(f,first)<-holding [ov] (getMethod ov m pl)
   callWith pos f first (backTo pos (starEach (e::es) X.env)) (backToKw pos (keywordEach [] X.env))):=by rfl):PE X (.Call (.Attribute o m apos) (e::es) [] pos) (uV C m sp [] E0 to t):=by
 obtain⟨c0,f,fd,a,b,d⟩:=c;exact Mr ho c0 a d (hr.mono hj) b .nil pF ha hst hpl ht
def eT{pl:Sem Bool}(c:aF X.prog X.w X.K X.mg X.base k C m ps sp)(ho:PE X o to)(hr:bR j X.A:=by assumption)(hj:k<=j:=by decide)
  (ht:eval (.Call (.Attribute o m apos) [] [] pos) X.env=(do
   let ov<-eval o X.env
   standAt apos.atName
   let(f,first)<-holding [ov] (getMethod ov m pl)
   callWith pos f first (backTo pos (starEach [] X.env)) (backToKw pos (keywordEach [] X.env))):=by rfl):PE X (.Call (.Attribute o m apos) [] [] pos) (uV C m sp [] E0 to jb):=by
 obtain⟨c0,f,fd,a,b,d⟩:=c;exact Ms ho c0 a d (hr.mono hj) b .nil pF ht
def y8(c:fZ X.prog X.w X.K X.mg X.base k x C ps sp)(ha:PA X (e::es) t)(hr:bR j X.A:=by assumption)(hg:Gl X x:=by rfl)(hj:k+1<=j:=by decide)(hdb:(x==("__debug__":Str))=false:=by decide)
  (he:starEach (e::es) X.env=(false,eval e X.env)::starEach es X.env:=by rfl) (hpl:(backTo pos (starEach es X.env)).any (·.1)=false:=by rfl):PE X (.Call (.Name x p) (e::es) [] pos) (uW C sp [] E0 t):=by
 obtain⟨a,f,fd,b,c,d⟩:=c;exact Mt b d (hr.mono hj) hg a c .nil pF ha hdb he hpl
def vm(c:fZ X.prog X.w X.K X.mg X.base k x C ps sp)(hr:bR j X.A:=by assumption)(hg:Gl X x:=by rfl)(hj:k+1<=j:=by decide)(hdb:(x==("__debug__":Str))=false:=by decide):PE X (.Call (.Name x p) [] [] pos) (uW C sp [] E0 jb):=by
 obtain⟨a,f,fd,b,c,d⟩:=c;exact Mu b d (hr.mono hj) hg a c .nil pF hdb
inductive a8(mg:ZQ)(x:Str)(i:Int):Prop|mk(t:_)(_:mg x=some (.int i t))
def Ot{i:Int}(hg:Gl X x)(h:a8 X.mg x i)(hd:(x==("__debug__":Str))=false:=by decide):PE X (.Name x pos) (tC (.int i)):=by
 obtain⟨t,h⟩:=h;exact Du hg h #[t,rfl] hd
end
end L2
namespace QS
open PySem PySem.Spec PyProof.Rows L2
def top(i:Nat):Stmt:=PySem.Challenge.pw_quiltshop_s01_answers.main.body.getD i (.Pass #[0,0,0,0])
end QS
namespace L2
open PySem PySem.Spec PyProof.Rows
variable{H H' H1:Hp}{D I L Pt S a b f y:Addr}{o:HO}{X:Cx}{pins:ZZ}{σ:St}{s:Shared}{xs:List V}{its:List Value}{k n tk:Nat}{body e ea ed:Expr}{J:It}{g:TG}{tb td te:TE}{vs:List Nat}{es:List Expr}{kp pos:Pos}{ta:TA}{p:Nat×Nat}{r:R2}{scope:Scope}{kvs:List (Key×V)}{prog:Program}{w:World}{A:Around}{u:Tok}{v:Value}{h:Heap}{m:ZQ}{qual:Str}{params:Arguments}{Q:VK}{fp wr:List Addr}{bt:Nat->Nat->Bool}
def del(H:Hp)(D:Addr):Hp:=λb=>if b=D then none else H b
def vn:del H D D=none:=by unfold del;rw[if_pos rfl]
def cE(h:b≠D):del H D b=H b:=by unfold del;rw[if_neg h]
def iP(h:del H D b=some o):b≠D/\H b=some o:=by
 unfold del at h;split at h
 .cases h
 .rename_i q;exact#[q,h]
def cf(h:H D=none):del (upd H D o) D=H:=by
 funext b
 by_cases q:b=D
 .subst q;rw[vn,h]
 .rw[cE q,ae q]
def Ou(h:H D=some o):upd (del H D) D o=H:=by
 funext b
 by_cases q:b=D
 .subst q;rw[ab,h]
 .rw[ae q,cE q]
def cT:del (upd H D o) D=del H D:=by
 funext b
 by_cases q:b=D
 .subst q;rw[vn,vn]
 .rw[cE q,ae q,cE q]
def bc:ag (del H D) H:=λb o h=>(iP h).2
def ai(h:H D=none):ag H (upd H D o):=λb u e=>by rw[ae (bH e h)];exact e
section
variable{s':Shared}
def Inv.Ov(I:Inv X pins σ H s):∀b∈X.fs,H b=none:=λb hb=>by
 obtain⟨_,o,ho,_⟩:=I.ok.gR.mem hb;exact I.base.free b o ho (I.ok.lV b hb) λz=>I.ok.oZ b z hb
def Inv.Ow(I:Inv X pins σ H s)(hD:H D=some (.lst xs)):∃ob:Obj,(aX λ(its:List Value) (n:Nat)=>Vals xs its/\ob={cls:=.type "list",data:=.seq its.toArray n})/\Inv X (pins++[(D,ob)]) σ (del H D) s:=by
 obtain⟨hz,its,n,rv,e⟩:=(show cu X.prog X.w H s.heap D (.lst xs)from I.aJ D _ hD)
 have nD:∀b u,H b=some u->u≠.lst xs->b≠D:=λb u h q z=>by subst z;rw[h]at hD;exact q (XW hD)
 refine#[_,#[its,n,rv,rfl],#[I.ok,I.os,I.bare,#[I.base.keep,I.base.slot,λb o h1 h2 h3=>?_,I.base.there,λb ys h=>?_,λb o u h=>?_,λb ps h=>?_],I.loc,I.cell,?_,λx c h=>?_,λp hp=>?_,λa o h=>?_,I.len]]
 .have q:=I.base.free b o h1 h2 h3;unfold del;split
  .rfl
  .exact q
 .have q:=I.base.di b ys h;rw[cE (nD b _ q (by intro z;cases z))];exact q
 .have q:=I.base.iD b o u h;rw[cE (nD b _ q (by intro z;cases z))];exact q
 .obtain⟨m,q⟩:=I.base.iE b ps h;exact#[m,by rw[cE (nD b _ q (by intro z;cases z))];exact q]
 .unfold del;split
  .rfl
  .exact I.free
 .unfold del;split
  .rfl
  .exact I.fC x c h
 .rw[<-Yw]at hp;rcases Yr.mp hp with hp|hp
  .obtain⟨a,b,c⟩:=I.pin p hp;refine#[a,?_,c];unfold del;split
   .rfl
   .exact b
  .simp at hp;subst hp;refine#[e,vn,?_,?_,λv z=>by cases z]
   .intro z;have:=I.free;rw[<-z,hD]at this;cases this
   .intro z;have:=I.Ov D z;rw[hD]at this;cases this
 .obtain⟨q1,q2⟩:=iP h;exact(I.aJ a o q2).gQ (λ_ _ _ r=>r) (λb r=>by rw[cE (nD b _ r (by intro z;cases z))];exact r) λb ys r=>by rw[cE (nD b _ r (by intro z;cases z))];exact r
def Inv.back{ob:Obj}(I:Inv X pins σ H s)(hD:H D=some (.lst xs))(hz:xs.length<=sizeLine)(rv:Vals xs its)(J:Inv X (pins++[(D,{cls:=.type "list",data:=.seq its.toArray n})]) σ H' s'):H' D=none/\Inv X pins σ (upd H' D (.lst xs)) s':=by
 obtain⟨e,hn,n1,n2,n3⟩:=J.pin (D,{cls:=.type "list",data:=.seq its.toArray n}) (by simp);have nb:∀b u,H' b=some u->b≠D:=λb u h z=>by subst z;rw[hn]at h;cases h
 refine#[hn,#[J.ok,J.os,J.bare,#[J.base.keep,J.base.slot,λb o h1 h2 h3=>?_,J.base.there,λb ys h=>?_,λb o u h=>?_,λb ps h=>?_],J.loc,J.cell,?_,λx c h=>?_,λp hp=>?_,λa o h=>?_,J.len]]
 .have q:=J.base.free b o h1 h2 h3;rw[ae]
  .exact q
  .intro z;subst z;have:=I.base.free b o h1 h2 h3;rw[hD]at this;cases this
 .have q:=J.base.di b ys h;rw[ae (nb b _ q)];exact q
 .have q:=J.base.iD b o u h;rw[ae (nb b _ q)];exact q
 .obtain⟨m,q⟩:=J.base.iE b ps h;exact#[m,by rw[ae (nb b _ q)];exact q]
 .rw[ae (Ne.symm n1)];exact J.free
 .rw[ae]
  .exact J.fC x c h
  .intro z;have:=I.fC x c h;rw[z,hD]at this;cases this
 .obtain⟨a,b,c⟩:=J.pin p (by rw[<-Yw];exact Ze _ hp);refine#[a,?_,c];rw[ae]
  .exact b
  .intro z;have:=(I.pin p hp).2.1;rw[z,hD]at this;cases this
 .by_cases q:a=D
  .subst q;rw[ab]at h;cases h;exact#[hz,its,n,rv,e]
  .rw[ae q]at h;exact(J.aJ a o h).gQ (λ_ _ _ r=>r) (λb r=>by rw[ae (nb b _ r)];exact r) λb ys r=>by rw[ae (nb b _ r)];exact r
inductive vo(t:TE)(σ:St)(H:Hp)(Q:VK):Prop|mk(D xs:_)(_:H D=some (.lst xs))(_:t σ (del H D) λv H'=>H' D=none->Q v (upd H' D (.lst xs)))
def dO{t:TE}(h:PE X e t):PE X e (vo t):=by
 intro pins s σ H Q I ⟨D,xs,hD,ht⟩;obtain⟨hz,_⟩:=(show cu X.prog X.w H s.heap D (.lst xs)from I.aJ D _ hD)
 obtain⟨ob,⟨its,n,rv,rfl⟩,I'⟩:=I.Ow hD;refine aN (h _ s σ _ _ I' ht) λu s' ⟨v,H',J,r,q⟩=>?_;obtain⟨hn,J'⟩:=I.back hD hz rv J (ob:={cls:=.type "list",data:=.seq its.toArray n});exact#[v,_,J',r,q hn]
end
theorem E8{tb:TS}{D:Ends}(Pv:Nat->St->Hp->Prop)(h0:Pv 0 σ H)
  (hs:∀i σ H,i<n->Pv i σ H->J.go i H/\∀x H',J.fD i H x H'->g x σ H' λσ2 H2=>tb {D with nx:=Pv (i+1),ct:=Pv (i+1),bk:=D.nx} σ2 H2) (hd:∀σ H,Pv n σ H->J.stop n H/\D.nx σ H):
  ∃W:Nat->Nat->St->Hp->Prop,(∃m,W 0 m σ H)/\∀i m σ H,W i m σ H->
   (J.stop i H/\D.nx σ H)\/(J.go i H/\∃N:St->Hp->Prop,(∀σ' H',N σ' H'->∃m',m'<m/\W (i+1) m' σ' H')/\∀x H',J.fD i H x H'->g x σ H' λσ2 H2=>tb {D with nx:=N,ct:=N,bk:=D.nx} σ2 H2):=by
 refine#[λi m σ H=>m=n-i/\i<=n/\Pv i σ H,#[n,by simp,Yg _,h0],?_];rintro i m σ H ⟨rfl,hi,p⟩;by_cases hlt:i<n
 .obtain⟨a,b⟩:=hs i σ H hlt p;exact .inr #[a,Pv (i+1),λσ' H' p'=>#[n-(i+1),by lia,rfl,hlt,p'],b]
 .have e:i=n:=by lia
  subst e;exact .inl (hd σ H p)
theorem y9{tt:TT}{Qd:Hp->Prop}(Pv:Nat->Hp->Prop)(h0:Pv 0 (upd H1 D (.lst [])))
  (hs:∀i H,i<n->Pv i H->J.go i H/\∀x H',J.fD i H x H'->g x (wipe σ vs) H' λσ2 H2=>wipe σ2 vs=wipe σ vs/\tt σ2 H2 λb H3=>
   if b=true then te σ2 H3 λy H4=>∃acc,H4 D=some (.lst acc)/\acc.length<sizeLine/\Pv (i+1) (upd H4 D (.lst (acc++[y])))else Pv (i+1) H3) (hd:∀H,Pv n H->J.stop n H/\Qd H):
  ∃W:Nat->Nat->Hp->Prop,(∃m,W 0 m (upd H1 D (.lst [])))/\∀i m H,W i m H->
   (J.stop i H/\Qd H)\/(J.go i H/\∃Nx:Hp->Prop,(∀H',Nx H'->∃m',m'<m/\W (i+1) m' H')/\∀x H',J.fD i H x H'->g x (wipe σ vs) H' λσ2 H2=>wipe σ2 vs=wipe σ vs/\tt σ2 H2 λb H3=>
    if b=true then te σ2 H3 λy H4=>∃acc,H4 D=some (.lst acc)/\acc.length<sizeLine/\Nx (upd H4 D (.lst (acc++[y])))else Nx H3):=by
 refine#[λi m H=>m=n-i/\i<=n/\Pv i H,#[n,by simp,Yg _,h0],?_];rintro i m H ⟨rfl,hi,p⟩;by_cases hlt:i<n
 .obtain⟨a,b⟩:=hs i H hlt p;exact .inr #[a,Pv (i+1),λH' p'=>#[n-(i+1),by lia,rfl,hlt,p'],b]
 .have e:i=n:=by lia
  subst e;exact .inl (hd H p)
def take_snoc{α:Type}{l:List α}{i:Nat}{x:α}(h:l[i]?=some x):l.take (i+1)=l.take i++[x]:=by
 rw[List.take_add_one,h];rfl
theorem Paired.get{α β:Type}{F:α->β->Prop}:∀ {l:List α} {m:List β},Paired F l m->∀ {i:Nat} {b:β},m[i]?=some b->∃a,l[i]?=some a/\F a b
 |_,_,.nil,i,b,h=>by simp at h
 |_,_,.cons r t,0,b,h=>by simp at h;subst h;exact#[_,rfl,r]
 |_,_,.cons r t,i+1,b,h=>by
  obtain⟨a,e,q⟩:=Paired.get t (i:=i) (b:=b) (by simpa using h);exact#[a,by simpa using e,q]
theorem Paired.getL{α β:Type}{F:α->β->Prop}:∀ {l:List α} {m:List β},Paired F l m->∀ {i:Nat} {a:α},l[i]?=some a->∃b,m[i]?=some b/\F a b
 |_,_,.nil,i,b,h=>by simp at h
 |_,_,.cons r t,0,b,h=>by simp at h;subst h;exact#[_,rfl,r]
 |_,_,.cons r t,i+1,a,h=>by
  obtain⟨b,e,q⟩:=Paired.getL t (i:=i) (a:=a) (by simpa using h);exact#[b,by simpa using e,q]
theorem jk{β:Type}{j:Nat}{Qd:Hp->Prop}(R:Hp->V->β->Prop)(mono:∀H H' v y,ag H H'->R H v y->R H' v y)(ys:List β)(hz:ys.length<=sizeLine)(hD:H1 D=none)
  (hw:∀x,wipe ((wipe σ vs).set j (some x)) vs=wipe σ vs)
  (hs:∀i y H,ys[i]?=some y->ag H1 (del H D)->J.go i H/\∀x H',J.fD i H x H'->H'=H/\∀Q:VK,(∀v H3,ag (del H D) H3->R H3 v y->Q v H3)->te ((wipe σ vs).set j (some x)) (del H D) Q)
  (hst:∀H,ag H1 (del H D)->J.stop ys.length H)
  (hd:∀H acc,H D=some (.lst acc)->ag H1 (del H D)->Paired (R (del H D)) acc ys->Qd H):
  ∃W:Nat->Nat->Hp->Prop,(∃m,W 0 m (upd H1 D (.lst [])))/\∀i m H,W i m H->
   (J.stop i H/\Qd H)\/(J.go i H/\∃Nx:Hp->Prop,(∀H',Nx H'->∃m',m'<m/\W (i+1) m' H')/\∀x H',J.fD i H x H'->m9 j x (wipe σ vs) H' λσ2 H2=>wipe σ2 vs=wipe σ vs/\nz σ2 H2 λb H3=>
    if b=true then vo te σ2 H3 λy H4=>∃acc,H4 D=some (.lst acc)/\acc.length<sizeLine/\Nx (upd H4 D (.lst (acc++[y])))else Nx H3):=by
 refine y9 (n:=ys.length) (λi H=>ag H1 (del H D)/\∃acc,H D=some (.lst acc)/\Paired (R (del H D)) acc (ys.take i)) ?_ (λi H hi p=>?_) (λH p=>?_)
 .rw[cf hD];exact#[ag.refl _,[],ab,.nil]
 .obtain⟨s1,acc,hA,pr⟩:=p;obtain⟨y,hy⟩:∃y,ys[i]?=some y:=#[_,XT hi]
  obtain⟨go,yl⟩:=hs i y H hy s1;refine#[go,λx H' yy=>?_];obtain⟨e,q⟩:=yl x H' yy;subst e;refine#[hw x,?_];unfold nz;dsimp only;rw[if_pos rfl];refine#[D,acc,hA,q _ λv H3 s2 r hn=>#[acc,ab,?_,?_]]
  .have:=pr.length;rw[YF]at this
   lia
  .rw[L2.d7,cf hn];refine#[s1.trans s2,acc++[v],ab,?_];rw[take_snoc hy];exact Paired.snoc (Paired.aY pr λa b z=>mono _ _ a b s2 z) r
 .obtain⟨s1,acc,hA,pr⟩:=p;rw[YO]at pr;exact#[hst H s1,hd H acc hA s1 pr]
section
variable(K:ZX)
theorem Ox(h:X.K=K:=by rfl):rK X (o_ K):=h▸MS
theorem Oy(h:X.K=K:=by rfl):rK X (yz K):=h▸je
theorem Oz(h:X.K=K:=by rfl):gU X (.builtin "len") (λxs H Q=>aX λp ys=>xs=[.ref p]/\(af K H p ys\/aI K H p ys)/\Q (.int ys.length) H):=h▸M0
theorem pI(h:X.K=K:=by rfl):rJ X (Eo K):=h▸MX
theorem E9(h:X.K=K:=by rfl):rJ X (Ej K):=h▸MR
theorem vp(h:X.K=K:=by rfl):bZ X (compareOp .In) (Er K false):=h▸MZ
theorem y_(hc:X.calm=true:=by rfl)(h:X.K=K:=by rfl):gU X (.builtin "sum") (Ew K):=h▸Nf hc
theorem listS(h:X.K=K:=by rfl):gU X (.type "list") (λxs H Q=>aX λp ys=>xs=[.ref p]/\(af K H p ys\/aI K H p ys)/\∀l,H l=none->Q (.ref l) (upd H l (.lst ys))):=h▸M1
end
section
variable(K:ZX){f:Str}{apos cpos:Pos}{ta:TE}{t:TA}
theorem aK(he:PE X e ta)(hb:attributeBase e f X.env (eval e X.env)=eval e X.env:=by rfl)(h:X.K=K:=by rfl):PE X (.Attribute e f pos) (D5 K ta f):=h▸Mj he hb
end
section
variable{a b e2:Expr}{ta E_:TE}{pos' p:Pos}{x:Str}
def a0(K:ZX)(ha:PE X a ta)(hb:PE X b tb)(h:X.K=K:=by rfl)(hs:yw b:=by exact λ_ _=>rfl):PE X (.Subscript a b pos) (iK (o_ K) ta tb):=iL (Ox K h) ha hb hs
def bE(K:ZX)(ha:PE X a ta)(hb:PE X b tb)(h:X.K=K:=by rfl)(hs:yw b:=by exact λ_ _=>rfl):PE X (.Subscript a b pos) (iK (yz K) ta tb):=iL (Oy K h) ha hb hs
def bO(K:ZX)(hm:X.mg "len"=none)(ha:PE X e te)(hg:Gl X "len":=by rfl)(h:X.K=K:=by rfl)(he:starEach [e] X.env=(false,eval e X.env)::starEach [] X.env:=by rfl)(hpl:(backTo pos (starEach [] X.env)).any (·.1)=false:=by rfl):PE X (.Call (.Name "len" p) [e] [] pos) (yq (λxs H Q=>aX λp ys=>xs=[.ref p]/\(af K H p ys\/aI K H p ys)/\Q (.int ys.length) H) (lZ te jb)):=kG (Oz K h) hg hm PySem.boot_len (bC ha eQ he) (by decide) (by decide) he hpl
def aR(i:Nat)(he:PE X e te)(hN:X.N.Nodup:=by assumption)(hi:X.N[i]?=some x:=by rfl)(hx:Loc X.env.scope x:=by exact Or.inl rfl)(hs:swapsWith e (some (.Name x pos')) pos.line X.env=pure false:=by rfl)(hf:X.fn x=true\/X.env.scope.names.lookup x=some .local:=by first|exact .inl rfl|exact .inr rfl|assumption):PS X (.Assign [.Name x pos'] e pos) (uJ te (m9 i)):=x9 hN hi hx he hs hf
def bQ(i:Nat)(hN:X.N.Nodup:=by assumption)(hi:X.N[i]?=some x:=by rfl)(hx:Loc X.env.scope x:=by exact Or.inl rfl)(hf:X.fn x=true\/X.env.scope.names.lookup x=some .local:=by first|exact .inl rfl|exact .inr rfl|assumption):PG X (.Name x pos) (m9 i):=DD hN hi hx hf
def aL{op:CmpOp}(ho:bZ X (compareOp op) r)(ha:PE X a ta)(hb:PE X b tb)(h:op≠.In:=by decide)(h2:op≠.NotIn:=by decide):PT X (.Compare a [op] [b] pos) (rF (iK r ta tb)):=rH ho ha hb (DY _ h h2)
def vq{op:CmpOp}(ho:bZ X (compareOp op) r)(ha:PE X a ta)(hb:PE X b tb)(h:op≠.In:=by decide)(h2:op≠.NotIn:=by decide):PE X (.Compare a [op] [b] pos) (iK r ta tb):=LY ho ha hb (DY _ h h2)
def aE{i:Int}(h:a8 X.mg x i)(hg:Gl X x:=by rfl)(hd:(x==("__debug__":Str))=false:=by decide):PE X (.Name x pos) (tC (.int i)):=Ot hg h hd
def aM{c:Expr}{body rest:List Stmt}{tc:TT}{t1 t2:TS}(hc:PT X c tc)(h1:dJ X body t1)(h2:dJ X rest t2):=aC (gS (pos:=pos) hc h1 jK) h2
def ax(he:PE X e te):dJ X [.Return (some e) pos] (uH te):=bF (Lw he)
def au(ha:PE X e te)(hs:starEach [e] X.env=(false,eval e X.env)::starEach [] X.env:=by rfl):PA X [e] (lZ te jb):=bC ha eQ hs
def aU(ha:PE X e te)(hb:PE X e2 E_)(hs:starEach [e,e2] X.env=(false,eval e X.env)::starEach [e2] X.env:=by rfl)(hs2:starEach [e2] X.env=(false,eval e2 X.env)::starEach [] X.env:=by rfl):PA X [e,e2] (lZ te (lZ E_ jb)):=bC ha (bC hb eQ hs2) hs
def jP{elt tg iter:Expr}{own:List (Str×Nat)}{wi:TI}(hi:PI X tg iter wi)(ok:pj X.N X.env.scope scope own)(hg:∀(s:Shared) (H:Hp) (C:Addr) (cl:List (Str×Addr)) (fp:List Addr),PG (X.aq s H scope (compEnvC scope cl C X.env) fp) tg g)(he:∀(s:Shared) (H:Hp) (C:Addr) (cl:List (Str×Addr)) (fp:List Addr),PE (X.aq s H scope (compEnvC scope cl C X.env) fp) elt te)(hN:X.N.Nodup:=by assumption)(hc:X.calm=true:=by rfl)(hs:∀x,foldedSetIterable iter X.env x=pure x:=by intro _;rfl):PE X (.ListComp elt [#[tg,iter,[],0]] scope pos) (rQ wi g nz (vo te) (own.map (·.2))):=rR hc hN hi ok hg (λ_ _ _ _ _=>nF) (λs H C cl fp=>dO (he s H C cl fp)) hs
end
def bu:1<=sizeLine:=by decide
def bV{p A B:Prop}[Decidable p](h1:p->A)(h2:¬p->B):if decide p=true then A else B:=bg (λh=>h1 (Yi h)) (λh=>h2 λz=>h (Yc z))
def mh{x:Str}(hg:Gl X x)(hm:X.mg x=some (.ref a))(hd:(x==("__debug__":Str))=false:=by decide):PE X (.Name x pos) (tC (.ref a)):=Du hg hm rfl hd
def jQ(P:Program)(w:World)(K:ZX)(a:Addr)(kvs:List (Key×V)):Prop:=
 (a==sysModules)=false/\lT λo es ep vs=>K.lookup a=some o/\o.ExactDict/\o.data=.dict es ep/\KeysOf (d5 P w) es/\Pairs (d5 P w) es.toList vs/\(vs.map (·.1)).Nodup/\KV kvs vs
def jQ.at_(m:jQ X.prog X.w X.K a kvs)(I:Inv X pins σ H s):∃vs,KV kvs vs/\s.heap.DictOf (d5 X.prog X.w) a vs:=by
 obtain⟨_,o,es,ep,vs,h1,h2,h3,h4,h5,h6,h7⟩:=m;exact#[vs,h7,o,es,ep,I.e8 a o h1,h2,h3,h4,h5,h6]
inductive OA(a:Addr)(kvs:List (Key×V))(Q:VK)(x:V)(y:V)(H2:Hp):Prop|mk(k v:_)(_:x=.ref a)(_:y=kV k)(_:bN kvs k=some v)(_:Q v H2)
def OB(a:Addr)(kvs:List (Key×V))(td ty:TE):TE:=λσ H Q=>td σ H λx H1=>ty σ H1 λy H2=>OA a kvs Q x y H2
inductive OC(a:Addr)(kvs:List (Key×V))(Q:VK)(y:V)(x:V)(H2:Hp):Prop|mk(k:_)(_:x=.ref a)(_:y=kV k)(_:Q (.bl (bN kvs k).isSome) H2)
def OD(a:Addr)(kvs:List (Key×V))(ty td:TE):TE:=λσ H Q=>ty σ H λy H1=>td σ H1 λx H2=>OC a kvs Q y x H2
section
variable{o i:Expr}{ty:TE}
def vt(m:jQ X.prog X.w X.K a kvs)(ho:PE X o td)(hi:PE X i ty)(hs:yV i:=by intro _ _;rfl):PE X (.Subscript o i pos) (OB a kvs td ty):=by
 intro pins s σ H Q I h;refine ER PySem.F.slot_dict_getitem.lookup hs (aN (ho pins s σ H _ I h) λu s1 ⟨x,H1,I1,rx,q1⟩=>aN (hi pins s1 σ H1 _ I1 q1) λiv s2 ⟨y,H2,I2,ry,k,v,ex,ey,g,q2⟩=>?_);subst ex ey;obtain rfl:u=Value.ref a:=rx;obtain⟨vs,rel,dd⟩:=m.at_ I2;obtain⟨w',hw,fX⟩:=e7.some_of (v:=v) (o:=valueAt vs k) (by rw[<-g];exact rel.val k);exact#[dd.typeIs,wpAny_getItem_of (rS ry) dd.mapOf hw #[v,H2,I2.tok _,fX,q2]]
def zb(m:jQ X.prog X.w X.K a kvs)(hi:PE X i ty)(ho:PE X o td):PC X .In i o (OD a kvs ty td):=by
 intro pins s σ H Q I h;refine aN (hi pins s σ H _ I h) λiv s1 ⟨y,H1,I1,ry,q1⟩=>aN (ho pins s1 σ H1 _ I1 q1) λu s2 ⟨x,H2,I2,rx,k,ex,ey,q2⟩=>?_;subst ex ey;obtain rfl:u=Value.ref a:=rx;obtain⟨vs,rel,dd⟩:=m.at_ I2;refine wpAny_in_of (rS ry) m.1 dd.mapOf ?_;rw[<-(rel.val k).EL];exact#[.bl _,H2,I2.tok _,rfl,q2]
end
open PySem.AutoSeq1 in
def OE(l:Addr)(items:Array Value)(n:Nat)(b:Addr)(items2:Array Value)(n2:Nat)(dd:Option Addr)(sl:Array (Option Value))(hs0:¬(!items.isEmpty&&Builtin.List.listTooLong (items.size+items2.size))=true)(hs1:items.size<=sizeLine)(hs2:items.size+items2.size<=sizeLine+1):
  Meets (Builtin.«list.extend» #[[.ref l,.ref b],[]]) (λ_ R s=>s.heap.get? l=some {cls:=.type "list",dict:=none,data:=.seq items n,slots:=#[]}/\s.heap.get? b=some {cls:=.type "tuple",dict:=dd,data:=.seq items2 n2,slots:=sl}/\R (.ok (.ret Value.none)) {s with heap:=s.heap.update l (Obj.mapSeq λx=>x++items2),toks:=s.toks}):=
 .of_wp λprog w A R s h=>by
  obtain⟨hp,g,d,tk,os⟩:=s;obtain⟨hl,hb,h⟩:=h;have f1:=idx_int;have f2:=AutoSeq1.sub_tuple_tuple;have f3:=AutoSeq1.sub_list_list;have f4:=AutoSeq1.sub_tuple_list;have f5:=AutoSeq1.sub_list_tuple;have hz':(items++items2).size<=sizeLine+1:=by rw[Array.size_append];exact hs2
  wp_walk using(wpAny_updateSeq hl rfl (hz:=hs1) (_hz':=hz')),wpAny_loadPart' hl,wpAny_loadPart' hb;exact#[_,rfl,h]
inductive OF(K:ZX)(x:V)(vs:List V)(H:Hp)(Q:VK):Prop|mk(l b xs zs:_)(_:x=.ref l)(_:vs=[.ref b])(_:H l=some (.lst xs))(_:aI K H b zs)(_:xs.length+zs.length<=sizeLine)(_:Q .ay (upd H l (.lst (xs++zs))))
theorem OG(K:ZX)(hK:X.K=K:=by rfl):nv X "list.extend" (OF K):=by
 subst hK;intro pins s σ H x vs v us Q I rx rv h;obtain⟨l,b,xs,zs,rfl,rfl,hH,hB,hz,q⟩:=h;cases rx;obtain⟨u,rfl,ru⟩:=rv.one;cases ru;obtain⟨z,its,n,r,hl,e⟩:=I.kK hH;obtain⟨its2,r2,⟨o,e2,c2,n2,d2⟩,z2⟩:=I.tuple hB;have hl2:=r2.length;have hsz:its.toArray.size+its2.toArray.size<=sizeLine:=by rw[X3,X3];lia
 have rM:¬(!its.toArray.isEmpty&&Builtin.List.listTooLong (its.toArray.size+its2.toArray.size))=true:=by
  rw[yD hsz,aai];exact X9
 obtain⟨oc,od,oda,osl⟩:=o;have c2:oc=.type "tuple":=c2;have d2:oda=.seq its2.toArray n2:=d2;subst c2 d2;refine call_meets F.slot_list_extend #[_,e,rfl] F.entry_list_extend (F.args_list_extend_2 _ _)
  (OE l its.toArray n b its2.toArray n2 od osl rM (by rw[X3];lia) (by lia)) #[e,e2,?_]
 refine#[.ay,_,I.rL (its':=its++its2) hH e (by simp) (r.append r2) ?_,rfl,q];rw[XY]
 lia
section
variable{E:ZJ}
def OH{r:Addr}{lo hi:Int}{t v:Tok}{R:List Value->Shared->Prop}(hh:A.handled=none)(hr:IsRange s.heap r lo hi 1 t u v)(hs:Builtin.Range.small lo hi 1=true)(hn:Builtin.Range.rangeSize lo hi 1=n)(hz:n<=2^24)
  (k:∀(g:Heap) (tk:Nat) (xs:Array Value),(∀b o,s.heap.get? b=some o->g.get? b=some o)->ItemsOf (λi x=>∃q,x=.int (lo+i*1) q) xs n->R xs.toList {s with heap:=g,toks:=tk}):
  wpAny (model prog w) A (collect (.ref r)) R E s:=by
 unfold collect;refine wpAny_bind (wpAny_runValue (codeAny_builtin entry_proto_collect' ?_));rw[Around.under_plainId PySem.F.plain_proto_collect _];show wpAny _ A.in1 (newList []>>=λz=>again (.builtin "list.__iadd__" #[[z,.ref r],[]])) _ _ s;refine wpAny_bind (wpAny_newObj_type (wpAny_pure #[plainId_quiet aaC _,codeAny_builtin entry_list_iadd' ?_]));rw[Around.under_plainId aaC _];let z:Addr:=s.heap.objs.size;let g0:Heap:=s.heap.push {cls:=.type "list",data:=.seq ([]:List Value).toArray};have jl:g0.get? z=some {cls:=.type "list",data:=.seq #[]}:=Heap.get?_push_size _ rfl;have rr:IsRange g0 r lo hi 1 t u v:=Heap.get?_push_of_some _ hr;have ext:=wpAny_extend_range (prog:=prog) (w:=w) (A:=A) (s:={s with heap:=g0}) (r:=r)
  (R:=λq s'=>lT λ(g:Heap) (tk:Nat) (xs:Array Value) (c:Nat)=>q=.ok (.ret (.ref z))/\s'={s with heap:=g,toks:=tk}/\(∀b o,s.heap.get? b=some o->g.get? b=some o)/\
   g.get? z=some {cls:=.type "list",dict:=none,data:=.seq xs c,slots:=#[]}/\ItemsOf (λi x=>∃q,x=.int (lo+i*1) q) xs n)
  hh rr hs hn hz z (.ref z) 0 jl (λg tk xs c k1 k2 k3=>#[g,tk,xs,c,rfl,rfl,λb o e=>k1 b o (Yj (Heap.lt_size e)) (Heap.get?_push_of_some _ e),k2,k3])
 refine wpAny_mono ext (λfin s' y=>?_) λe s' y=>?_
 .cases fin with
  |done fl=>
   obtain⟨g,tk,xs,c,e,e',k1,k2,k3⟩:=y;cases e;subst e';show wpAny _ A (load z>>=_) _ _ _;exact wpAny_bind (wpAny_load k2 (wpAny_pure (k g tk xs k1 k3)))
  |again c1=>
   refine#[y.1,codeAny_mono y.2 λq s2 y2=>?_];obtain⟨g,tk,xs,c,e,e',k1,k2,k3⟩:=y2;subst e e';show wpAny _ A (load z>>=_) _ _ _;exact wpAny_bind (wpAny_load k2 (wpAny_pure (k g tk xs k1 k3)))
 .obtain⟨_,_,_,_,e',_⟩:=y;cases e'
end
def OI{m':ZQ}(x:h.Ns a m)(y:h.Ns a m'):m=m':=by
 obtain⟨o,es,ep,e,d,_,f⟩:=x;obtain⟨o',es',ep',e',d',_,f'⟩:=y;rw[e]at e';cases e';rw[d]at d';injection d' with d1 _;subst d1
 funext z
 rw[<-f z,<-f' z]
section
variable{g:Heap}{x:Addr}
def Inv.OJ(I:Inv X pins σ H s)(fx:cw X pins H x)(fy:cw X pins H y)(F0:Fr X.base X.env.locals s.heap m)(F:Fr X.base X.env.locals g m)
  (N:∀b o,b≠X.env.locals->b≠x->b≠y->X.base.get? b=none->s.heap.get? b=some o->g.get? b=some o):Inv X pins σ H {s with heap:=g,toks:=tk}:=by
 have kp:∀b o,b≠X.env.locals->b≠x->b≠y->s.heap.get? b=some o->g.get? b=some o:=λb o h1 h2 h3 e=>by
  cases q:X.base.get? b with|none=>exact N b o h1 h2 h3 q e|some u=>
   have:=F0.keep b u q;rw[e]at this;cases this;exact F.keep b _ q
 have pJ:∀b,b∉[x,y]->b≠x/\b≠y:=λb h=>#[λz=>h (by simp[z]),λz=>h (by simp[z])]
 refine I.step (g':=s.gens) (d':=s.drawn) (ch:=[x,y]) (λb hb=>?_) (λb o h1 _ h3 e _=>kp b o h1 (pJ b h3).1 (pJ b h3).2 e) (λb o h1 _ h3 e _=>#[o.slots,kp b o h1 (pJ b h3).1 (pJ b h3).2 e]) (λ_ _ _ _ n=>n) (λb o h3 e=>?_)
  (λ_ _ e=>e) (λ_ _ _ e=>e) (λb ps e=>#[#[],by rw[e];simp]) (λm' hm=>?_) (λb u e=>?_) I.bare
 .have hb:b=x\/b=y:=by simpa using hb
  rcases hb with rfl|rfl
  .exact#[fx.2.2.2.1,fx.2.1,fx.2.2.2.2.1,fx.2.2.2.2.2]
  .exact#[fy.2.2.2.1,fy.2.1,fy.2.2.2.2.1,fy.2.2.2.2.2]
 .by_cases q:b=X.env.locals
  .obtain⟨o',_,_,e',_⟩:=F.ns;exact#[o',by rw[q];exact e']
  .exact#[o,kp b o q (pJ b h3).1 (pJ b h3).2 e]
 .rw[OI hm F0.ns];exact F.ns
 .refine(I.aJ b u e).gQ (λc v hc q=>?_) (λ_ q=>q) λ_ _ q=>q;have tr:∃o,H c=some o:=by
   rcases hc with z|z
   .exact#[u,by rw[z];exact e]
   .exact#[_,z]
  obtain⟨o,ho⟩:=tr;refine kp c v (λz=>?_) (λz=>?_) (λz=>?_) q
  .rw[z,I.free]at ho;cases ho
  .rw[z,fx.1]at ho;cases ho
  .rw[z,fy.1]at ho;cases ho
def vv(g h:Heap)(L x y:Addr):List (Addr×Obj):=(uB g h L).filter λp=>decide (p.1≠x)&&decide (p.1≠y)
def Fb{g:Heap}{x:Addr}:∀p∈vv g h L x y,p.1≠x/\p.1≠y:=λp hp=>by
 have q:=(YI.mp hp).2;simp only[Ya,Yx]at q;exact q
def OK{g:Heap}{x:Addr}{o:Obj}(h1:a≠L)(h2:g.get? a=none)(h3:h.get? a=some o)(h4:a≠x)(h5:a≠y):(a,o)∈vv g h L x y:=
 YI.mpr #[Lc h1 h2 h3,by simp[h4,h5]]
def OL{g:Heap}{x:Addr}:News g L h (vv g h L x y):=λp hp=>Le p (YI.mp hp).1
def cw.Fc(I:Inv X pins σ H s)(f:cw X pins H x)(hex:X.ex=[]):X.base.get? x=none:=by
 cases q:X.base.get? x with|none=>rfl|some o=>
  have h1:=f.2.2.2.1;rw[hex]at h1;have h2:X.dm.heap.objs.size<=x:=h1.resolve_left (by simp);exact absurd (Yf (Heap.lt_size q) (X8 I.ok.iF h2)) (YL _)
def Inv.own{f:Obj->Obj}(I:Inv X pins σ H s)(fx:cw X pins H x):Inv X pins σ H {s with heap:=s.heap.update x f}:=
 I.turned (t':=s.toks) (λb o hb e=>by rw[Heap.get?_update_ne _ _ _ _ hb];exact e) fx.1 fx.2.1 fx.2.2.2.1 fx.2.2.2.2.1 fx.2.2.2.2.2
def Inv.Fd{ox oy:Obj}(I:Inv X pins σ H s)(fx:cw X pins H x)(fy:cw X pins H y)(hx:s.heap.get? x=some ox)(hy:s.heap.get? y=some oy)(cx:∀v,ox.data≠.cell v)(cy:∀v,oy.data≠.cell v):Inv X (pins++[(x,ox),(y,oy)]) σ H s:=
 I.uE λp hp=>by
  rcases Yr.mp hp with q|q
  .exact I.pin p (Yo _ q)
  .have q:p=(x,ox)\/p=(y,oy):=by simpa using q
   rcases q with rfl|rfl
   .exact#[hx,fx.1,fx.2.1,fx.2.2.1,cx]
   .exact#[hy,fy.1,fy.2.1,fy.2.2.1,cy]
end
def cw.heap{x:Addr}(f:cw X pins H x)(h:H' x=none):cw X pins H' x:=#[h,f.2]
section
variable{E:ZJ}{f:Value}{vs:List Value}{kz:List Int}{W:PySem.Fin->Shared->Prop}
theorem OM(I:Inv X pins σ H s)(hex:X.ex=[])(ho:s.heap.get? a=some (seqObj "list" vs.toArray n))(fa:cw X pins H a)(hl:kz.length=vs.length)(h64:vs.length<64)
  (turn:∀(i:Nat) (v:Value) (k:Int),vs[i]?=some v->kz[i]?=some k->∀(ps:ZZ) (s':Shared) (H1:Hp),(∀p∈pins,p∈ps)->ag H H1->Inv X ps σ H1 s'->wpAny (model X.prog X.w) A (call f [v]) (λr s2=>aX λt H2=>r=.int k t/\ag H1 H2/\Inv X ps σ H2 s2) (λ_ _=>False) s')
  (fin:∀s' H1 out c,ag H H1->H1 a=none->Inv X pins σ H1 s'->s'.heap.get? a=some (seqObj "list" out c)->KskOut false kz vs out.toList->W (.done (.ret .none)) s'):wpAny (model X.prog X.w) A (ksk_tree a f false) W E s:=by
 have Fe:vs.length<=sizeLine:=by rw[sizeLine_eq];lia
 unfold ksk_tree;refine wpAny_bind (listItems_at ho rfl (wpAny_bind (listUpdate_at ho rfl ?_ (by rw[X3];exact Fe) (Yg _))));obtain⟨e1,ho1⟩:∃e1,(s.heap.update a (Obj.mapSeq λ_=>(#[]:Array Value))).get? a=some (seqObj "list" #[] e1):=#[_,get?_update_seq ho λ_=>#[]]
 have I1:=I.own (f:=Obj.mapSeq λ_=>(#[]:Array Value)) fa;refine wpAny_bind (seqEpoch_at ho1 rfl (wpAny_bind (wpAny_newTuple (wpAny_bind (wpAny_newList (wpAny_holding ?_) (Yg _))) (by simpa using Fe))));have I2:=I1.kept (h':=(s.heap.update a (Obj.mapSeq λ_=>(#[]:Array Value))).push (seqObj "tuple" vs.toArray 0)) (t':=s.toks) λb o e=>Heap.get?_push_of_some _ e;have ha2:((s.heap.update a (Obj.mapSeq λ_=>(#[]:Array Value))).push (seqObj "tuple" vs.toArray 0)).get? a=some (seqObj "list" #[] e1):=Heap.get?_push_of_some _ ho1;show wpAny _ A (ksk_rest a f false vs.toArray e1 (.ref ((s.heap.update a (Obj.mapSeq λ_=>(#[]:Array Value))).push (seqObj "tuple" vs.toArray 0)).objs.size)) _ _ {s with heap:=((s.heap.update a (Obj.mapSeq λ_=>(#[]:Array Value))).push (seqObj "tuple" vs.toArray 0)).push (seqObj "list" #[] 0)};generalize (s.heap.update a (Obj.mapSeq λ_=>(#[]:Array Value))).push (seqObj "tuple" vs.toArray 0)=g2 at I2 ha2 ⊢;have I3:=I2.kept (h':=g2.push (seqObj "list" #[] 0)) (t':=s.toks) λb o e=>Heap.get?_push_of_some _ e;have fk:cw X pins H g2.objs.size:=I2.iH (X0 _) (I2.aJ.fresh (X0 _));have zc:g2.objs.size≠a:=Zr (Heap.lt_size ha2);have ha3:(g2.push (seqObj "list" #[] 0)).get? a=some (seqObj "list" #[] e1):=Heap.get?_push_of_some _ ha2;have hk3:(g2.push (seqObj "list" #[] 0)).get? g2.objs.size=some (seqObj "list" #[] 0):=Heap.get?_push_size _ rfl;generalize g2.objs.size=y at fk zc hk3 ⊢;have mi:∀(xs:Array Value) (c:Nat) (v:Option Value),(seqObj "list" xs c).data≠.cell v:=λ_ _ _ z=>by cases z
 have I4:=I3.Fd fk fa hk3 ha3 (mi _ _) (mi _ _);unfold ksk_rest;refine wpAny_bind (wpAny_rule ?_);rw[<-Array.forIn_toList];refine wpAny_bind (ksk_fold (λi s'=>c8 λ(ks:Array Value) (e:Nat) (H1:Hp)=>ag H H1/\Inv X (pins++[(y,seqObj "list" ks e),(a,seqObj "list" #[] e1)]) σ H1 s'/\IntsAre ks.toList (kz.take i)) _ 0 _ #[#[],0,H,ag.refl _,I4,.nil] ?step ?done)
 case step=>
  rintro j x s' hx ⟨ks,e,H1,sm,J,hk⟩;simp only[Zh]at hk ⊢;have hj:j<vs.length:=by simpa using(XZ.mp hx).1
  obtain⟨k,hkj⟩:∃k,kz[j]?=some k:=#[_,XT (by lia)]
  have lk:=hk.length;rw[Zk,YF]at lk;refine wpAny_bind (wpAny_attempt (wpAny_mono (turn j x k (by simpa using hx) hkj _ s' H1 (λp hp=>Ze _ hp) sm J) (λr s2 hr=>?_) λ_ _ z=>z.elim));obtain⟨t2,H2,er,ON,J2⟩:=hr;subst er;dsimp only;obtain⟨nk,ze,_⟩:=J2.pin (y,seqObj "list" ks e) (by simp);obtain⟨na,na2,_⟩:=J2.pin (a,seqObj "list" #[] e1) (by simp);have Ff:=fk.heap ze;have OO:=fa.heap na2;obtain⟨c2,hc2⟩:∃c2,(s2.heap.update y (Obj.mapSeq (·.push (.int k t2)))).get? y=some (seqObj "list" (ks.push (.int k t2)) c2):=#[_,get?_update_seq nk (·.push (.int k t2))]
  refine wpAny_bind (listUpdate_at nk rfl (wpAny_pure #[rfl,ks.push (.int k t2),c2,H2,sm.trans ON,?_,?_]) (by rw[sizeLine_eq];lia) (by rw[Array.size_push,sizeLine_eq];lia))
  .exact(J2.ng.own Ff).Fd Ff OO hc2 (by show(s2.heap.update y _).get? a=_;rw[Heap.get?_update_ne _ _ _ _ (Ne.symm zc)];exact na) (mi _ _) (mi _ _)
  .rw[take_snoc hkj,Array.toList_push];exact ksk_snoc hk
 case done=>
  rintro s' ⟨ks,e,H1,sm,J,hk⟩;have hk':IntsAre ks.toList kz:=by
   have e3:kz.take (0+vs.toArray.toList.length)=kz:=Yv (by simp;lia);rw[e3]at hk;exact hk
  obtain⟨nk,ze,_⟩:=J.pin (y,seqObj "list" ks e) (by simp);obtain⟨na,na2,_⟩:=J.pin (a,seqObj "list" #[] e1) (by simp);have fk:=fk.heap ze;have fa:=fa.heap na2;have J0:=J.ng;obtain⟨m,F0⟩:=J0.fr;refine wpAny_bind (listItems_at nk rfl ?_);refine ksk_end_ (h₀:=X.base) (L:=X.env.locals) (m:=m) (news:=vv X.base s'.heap X.env.locals y a) (e:=e) F0 (λp hp=>?_) zc (λp hp=>(Fb p hp).1) (λp hp=>(Fb p hp).2) hk' hl h64 (λg tk out c F N ko=>fin _ H1 out c sm na2 (J0.OJ fk fa F0 F λb o h1 h2 h3 h4 h5=>?_) (N (a,seqObj "list" out c) (Ym ..)).1 ko)
  .rcases Yr.mp hp with q|q
   .exact OL p q
   .have q:p=(y,seqObj "list" ks e)\/p=(a,seqObj "list" #[] e1):=by simpa using q
    rcases q with rfl|rfl
    .exact#[nk,fk.2.1,cw.Fc J0 fk hex]
    .exact#[na,fa.2.1,cw.Fc J0 fa hex]
  .exact(N (b,o) (X6 _ (OK h1 h4 h5 h2 h3))).1
end
def Inv.Fg(I:Inv X pins σ H s)(hex:X.ex=[])(fa:cw X pins H a)(new:cu X.prog X.w (upd H a o) s.heap a o):Inv X pins σ (upd H a o) s:=by
 have nb:∀b u,H b=some u->b≠a:=λb u h z=>by rw[z,fa.1]at h;cases h
 have big:X.dm.heap.objs.size<=a:=fa.2.2.2.1.resolve_left (by rw[hex];simp);refine#[I.ok,I.os,I.bare,#[I.base.keep,I.base.slot,λb o h1 h2 h3=>?_,I.base.there,λb ys h=>?_,λb o u h=>?_,λb ps h=>?_],I.loc,I.cell,?_,λx c h=>?_,λp hp=>?_,λb o h=>?_,I.len]
 .rw[ae (Yj (Yf (Heap.lt_size h1) big))];exact I.base.free b o h1 h2 h3
 .have q:=I.base.di b ys h;rw[ae (nb b _ q)];exact q
 .have q:=I.base.iD b o u h;rw[ae (nb b _ q)];exact q
 .obtain⟨m,q⟩:=I.base.iE b ps h;exact#[m,by rw[ae (nb b _ q)];exact q]
 .rw[ae (Ne.symm fa.2.1)];exact I.free
 .rw[ae (fa.2.2.2.2.1 x c h)];exact I.fC x c h
 .obtain⟨a1,b1,c1⟩:=I.pin p hp;exact#[a1,by rw[ae (fa.2.2.2.2.2 p hp)];exact b1,c1]
 .by_cases q:b=a
  .subst q;rw[ab]at h;cases h;exact new
  .rw[ae q]at h;exact(I.aJ b o h).gQ (λ_ _ _ r=>r) (λc r=>by rw[ae (nb c _ r)];exact r) λc ys r=>by rw[ae (nb c _ r)];exact r
def Inv.OP(I:Inv X pins σ H s)(hex:X.ex=[])(fa:cw X pins H a)(e:s.heap.get? a=some {cls:=.type "list",data:=.seq its.toArray n})(rv:Vals xs its)(hz:xs.length<=sizeLine):Inv X pins σ (upd H a (.lst xs)) s:=
 I.Fg hex fa #[hz,its,n,rv,e]
theorem sorted_out{key:Nat->Nat}{vs out:List Value}(hv:∀(i:Nat) (v:Value),vs[i]?=some v->∃q,v=.int (i:Nat) q)(hn:vs.length=n)(ko:KskOut false ((List.range n).map λi=>((key i:Nat):Int)) vs out):
  ∃order:List Nat,order.Perm (List.range n)/\(order.Pairwise λi j=>key i<=key j)/\Vals (order.map λi=>V.int (i:Nat)) out:=by
 obtain⟨ps,p1,p2,p3⟩:=ko;have mem:∀p∈ps,aX λi q=>i<n/\p=(((key i:Nat):Int),Value.int (i:Nat) q):=λp hp=>by
  have q:=p1.mem_iff.mp hp;obtain⟨i,hi,e⟩:=Y8 q;have hi':i<n:=by
   rw[List.length_zip,XX,Zq]at hi
   lia
  rw[ZI]at e;obtain⟨q1,e1⟩:=hv i _ (XT (show i<vs.length by lia));rw[e1]at e;refine#[i,q1,hi',?_];rw[<-e];simp
 let g:Int×Value->Nat:=λp=>(numOf p.2).toNat;have gi:∀(i:Nat) (k:Int) (q:Tok),g (k,Value.int (i:Nat) q)=i:=λi k q=>by
  show(numOf (Value.int (i:Nat) q)).toNat=i;simp[numOf]
 refine#[ps.map g,?_,?_,?_]
 .refine(p1.map g).trans (List.Perm.of_eq ?_);apply YQ
  .simp[hn]
  .intro i h1 h2;have hi:i<n:=by simpa using h2
   rw[aay,ZI,List.getElem_range];obtain⟨q1,e1⟩:=hv i _ (XT (show i<vs.length by lia));rw[e1,gi]
 .rw[aap];refine p3.imp_of_mem λ{p q} hp hq h=>?_;obtain⟨i,q1,_,rfl⟩:=mem p hp;obtain⟨j,q2,_,rfl⟩:=mem q hq;rw[gi,gi];have h:((key i:Nat):Int)<=((key j:Nat):Int):=h
  lia
 .rw[p2];have gen:∀l:List (Int×Value),(∀p∈l,aX λi q=>i<n/\p=(((key i:Nat):Int),Value.int (i:Nat) q))->Vals ((l.map g).map λi=>V.int (i:Nat)) (l.map Prod.snd):=by
   intro l
   induction l with|nil=>intro _;exact .nil|cons p l ih=>
    intro h;obtain⟨i,q,_,rfl⟩:=h p (by simp);refine .cons ?_ (ih λx hx=>h x (by simp[hx]));exact#[q,by rw[gi]]
  exact gen ps mem
section
variable{E:ZJ}{r fa:Addr}{t v:Tok}{Q:ZJ}
theorem OQ(key:Nat->Nat)(hc:X.calm=true)(hex:X.ex=[])(I:Inv X pins σ H s)(hr:IsRange s.heap r 0 (n:Int) 1 t u v)(h64:n<64)
  (turn:∀(i:Nat) (q:Tok),i<n->∀(ps:ZZ) (s':Shared) (H1:Hp),(∀p∈pins,p∈ps)->ag H H1->Inv X ps σ H1 s'->wpAny (model X.prog X.w) X.A.in1.in1 (call (.ref fa) [.int (i:Nat) q]) (λr s2=>aX λt H2=>r=.int ((key i:Nat):Int) t/\ag H1 H2/\Inv X ps σ H2 s2) (λ_ _=>False) s')
  (h:∀(order:List Nat) (D:Addr) (s':Shared) (H1:Hp),order.Perm (List.range n)->(order.Pairwise λi j=>key i<=key j)->ag H H1->H1 D=none->Inv X pins σ (upd H1 D (.lst (order.map λi=>V.int (i:Nat)))) s'->Q (.ref D) s'):
  wpAny (model X.prog X.w) X.A (call (.builtin "sorted") [.ref r] [(Str.ofString "key",.ref fa)]) Q E s:=by
 refine call_function_entry_kw kind_sorted plain_sorted entry_sorted (ksk_s1 _ _) ?_;unfold Builtin.«sorted»;refine wpAny_bind (m:=checkCount "sorted" 1 1 _) (wpAny_pure ?_);have hh:X.A.in1.handled=none:=I.ok.hd hc;have sm:Builtin.Range.small 0 (n:Int) 1=true:=small_one (by lia) (by lia) (by lia) (by lia);have rs:Builtin.Range.rangeSize 0 (n:Int) 1=(n:Nat):=by rw[rangeSize_one];split<;>lia
 refine wpAny_bind (OH hh hr sm rs (by lia) λg tk xs kp items=>?_);have I1:=I.kept (h':=g) (t':=tk) kp;have lx:xs.toList.length=n:=by rw[Zk];exact items.1
 have hv:∀(i:Nat) (v:Value),xs.toList[i]?=some v->∃q,v=.int (i:Nat) q:=λi v e=>by
  rw[ZD]at e;obtain⟨q,hq⟩:=items.2 i v e;exact#[q,by rw[hq,show(0:Int)+((i:Nat):Int)*1=((i:Nat):Int) by lia]]
 refine wpAny_bind (wpAny_newList ?_ (X8 (show xs.toList.length<=64 by lia) (by decide)));have I2:=I1.kept (h':=g.push (seqObj "list" xs.toList.toArray 0)) (t':=tk) λb o e=>Heap.get?_push_of_some _ e;have fk:cw X pins H g.objs.size:=I1.iH (X0 _) (I1.aJ.fresh (X0 _));have hoL:(g.push (seqObj "list" xs.toList.toArray 0)).get? g.objs.size=some (seqObj "list" xs.toList.toArray 0):=Heap.get?_push_size _ rfl;refine wpAny_bind (wpAny_holding (wpAny_call_entry_kw slot_list_sort #[_,hoL,rfl] entry_list_sort ?body (ksk_l1 _ _)))
 case body=>
  show wpAny (model X.prog X.w) X.A.in1.in1 (Builtin.«list.sort» #[[.ref g.objs.size],[(Str.ofString "key",.ref fa)]]) _ _ _;rw[ksk_t1];refine OM (kz:=(List.range n).map λi=>((key i:Nat):Int)) I2 hex hoL fk (by simp[lx]) (by lia) (λi v k hi hk ps s' H1 hps sm J=>?_) λs' H1 out c sm nD J ho ko=>#[_,rfl,?_]
  .obtain⟨q,rfl⟩:=hv i v hi;have hi':i<n:=by rw[<-lx];exact(XZ.mp hi).1
   rw[X1,Yn hi']at hk;have hk:((key i:Nat):Int)=k:=XW hk;subst hk;exact turn i q hi' ps s' H1 hps sm J
  .obtain⟨order,o1,o2,o3⟩:=sorted_out hv lx ko;have lo:(order.map λi=>V.int (i:Nat)).length<=sizeLine:=by
    rw[XX,o1.length_eq,Zq];exact X8 (show n<=64 by lia) (by decide)
   exact wpAny_pure #[_,rfl,h order _ s' H1 o1 o2 sm nD (J.OP hex (fk.heap nD) (its:=out.toList) (n:=c) (by rw[ho]) o3 lo)]
end
structure pK(N:List Str)(sc scope:Scope)(p:Str):Prop where
 kind:scope.kind=.function
 co:scope.isCoroutine=false
 gen:scope.isGenerator=false
 par:scope.names.lookup p=some .local
 only:∀y∈scope.names,y.2=.local->y.1=p
 mi:∀y∈scope.names,y.2≠.cell
 free:∀y∈scope.names,y.2=.free->sc.names.lookup y.1=some .cell\/sc.names.lookup y.1=some .free
 uniq:∀y∈scope.names,scope.names.lookup y.1=some y.2
 np:p∉N
abbrev Cx.lam(X:Cx)(A:Around)(s:Shared)(H:Hp)(p:Str)(env:Env):Cx:=
 {X with A:=A.deeper env,N:=p::X.N,dm:=s,oY:=H,env:=env,outer:=X.stack,stack:=env::X.stack,ex:=[],fn:=λ_=>false,calm:=true,pn:=[],xe:=λ_ _=>False}
abbrev rV(X:Cx)(qual:Str)(scope:Scope)(L f:Addr)(cd:Value):Env:=PySem.W.envX qual scope L f cd (cQ X.env.cells scope.names [])
section
variable{p:Str}
def Fh(I:Inv X pins σ H s)(L:pK X.N X.env.scope scope p):∀y∈scope.names,y.2=.free->∃c,X.env.cells.lookup y.1=some c:=λy hy e=>by
 rcases L.free y hy e with k|k
 .exact I.ok.has _ (.inl k)
 .exact I.ok.has _ (.inr k)
def OR{cd u:Value}{v:V}{h1:Heap}{ob:Obj}(I:Inv X pins σ H s)(L:pK X.N X.env.scope scope p)(hf:A.frames=some X.stack)(hh:A.handled=none)(rv:RelV v u)
  (hns:h1.Ns s.heap.objs.size (λy=>[(p,u)].reverse.lookup y)) (hsb:Heap.SameBut s.heap.objs.size (s.heap.push ob) h1):
  Inv (X.lam A s H p (rV X qual scope s.heap.objs.size f cd)) [] (some v::σ) H {s with heap:=h1,toks:=s.toks+n}:=by
 have hfree:=Fh I L;have kp:∀b o,s.heap.get? b=some o->h1.get? b=some o:=λb o e=>hsb.extBut b o (Yj (Heap.lt_size e)) (Heap.get?_push_of_some _ e);generalize henv:rV X qual scope s.heap.objs.size f cd=env;have hL:env.locals=s.heap.objs.size:=by rw[<-henv]
 have hcl:env.cells=cQ X.env.cells scope.names []:=by rw[<-henv]
 have hsc:env.scope=scope:=by rw[<-henv]
 have mem:∀ {y c},env.cells.lookup y=some c->X.env.cells.lookup y=some c/\c<s.heap.objs.size:=λ{y c} e=>by
  rw[hcl]at e;rcases rN (PySem.mem_of_lookup e)with hm|⟨h1,rfl⟩
  .cases hm
  .obtain⟨c,hc⟩:=hfree _ h1 rfl;rw[hc];obtain⟨w,z⟩:=I.cell _ _ hc;exact#[rfl,z.lt]
 have look:∀ {y},scope.names.lookup y=some .free->∃c,env.cells.lookup y=some c/\X.env.cells.lookup y=some c:=λ{y} hl=>by
  have hy:(y,NameKind.free)∈scope.names:=PySem.mem_of_lookup hl;obtain⟨c',e'⟩:=mem_lookup (u5 (cells:=X.env.cells) (acc:=[]) hy);rw[<-hcl]at e';exact#[c',e',(mem e').1]
 have yN:(X.lam A s H p env).Ok:=by
  refine#[I.ok.mod,by show env.scope.kind=_;rw[hsc];exact L.kind,by show env.globals=_;rw[<-henv],by show env.builtins=_;rw[<-henv],by show s.heap.objs.size<=env.locals;rw[hL];exact X0 _,
   λy z c e1 e2=>I.ok.inj y z c (mem e1).1 (mem e2).1,λy hy=>?_,λy c z _=>absurd z (by simp),λ_=>hh,Around.frames_deeper hf,.inr #[rfl,by show env.frame=some env.locals;rw[<-henv]],λb hb=>absurd (show b∈([]:List Addr)from hb) (by simp),I.bs,X8 I.ok.iF I.sz,λb _ _ hb=>absurd (show b∈([]:List Addr)from hb) (by simp),λb hb=>absurd (show b∈([]:List Addr)from hb) (by simp),I.stack,I.xW]
  show ∃c,env.cells.lookup y=some c;have hy:env.scope.names.lookup y=some .cell\/env.scope.names.lookup y=some .free:=hy;rw[hsc]at hy;rcases hy with hy|hy
  .exact absurd rfl (L.mi _ (PySem.mem_of_lookup hy))
  .obtain⟨c,h1,_⟩:=look hy;exact#[c,h1]
 refine#[yN,rfl,I.bare,Un.kept kp,#[_,(by show Heap.Ns _ env.locals _;rw[hL];exact hns),λi y av e1 e2 e3=>?_],λy c e=>?_,?_,λy c e=>?_,λp hp=>?_,I.aJ.kept kp,?_]
 .cases i with
  |zero=>
   have e1:p=y:=XW e1;have e2:some v=some av:=XW e2;cases e2;subst e1;refine#[u,rv,.inl #[(by show env.scope.names.lookup p=_;rw[hsc];exact L.par),?_]];show List.lookup p [(p,u)]=some u;simp
  |succ i=>
   have e1:X.N[i]?=some y:=e1;have e2:σ[i]?=some (some av):=e2;have yp:y≠p:=λz=>L.np (by rw[<-z];exact X_ e1);have e3:m5 env.scope y:=e3;rw[hsc]at e3;have hfr:scope.names.lookup y=some .free:=by
    rcases e3 with e3|e3|e3
    .exact absurd (L.only _ (PySem.mem_of_lookup e3) rfl) yp
    .exact absurd rfl (L.mi _ (PySem.mem_of_lookup e3))
    .exact e3
   obtain⟨m,hn,hl⟩:=I.loc;have hk:=L.free _ (PySem.mem_of_lookup hfr) rfl;have yO:m5 X.env.scope y:=hk.elim (λk=>.inr (.inl k)) (λk=>.inr (.inr k));obtain⟨w,r,q⟩:=hl i y av e1 e2 yO;obtain⟨c,h1,h2⟩:=look hfr;refine#[w,r,.inr #[.inr (by show env.scope.names.lookup y=_;rw[hsc];exact hfr),c,h1,?_]];rcases q with⟨k,_⟩|⟨_,c',e',z⟩
   .have k:X.env.scope.names.lookup y=some .local:=k;rcases hk with k'|k'<;>rw[show X.env.scope.names.lookup y=_ from k']at k<;>cases k
   .rw[h2]at e';cases e';exact z.keeps kp
 .obtain⟨w,z⟩:=I.cell y c (mem e).1;exact#[w,z.keeps kp]
 .show H env.locals=none;rw[hL];exact I.aJ.fresh (X0 _)
 .exact I.fC y c (mem e).1
 .exact absurd (show p∈([]:ZZ)++[]from hp) (by simp)
 .show σ.length+1=X.N.length+1;rw[I.len]
def OS{c':Addr}{pm ctv u:Value}{v:V}(I:Inv X pins σ H s)(L:pK X.N X.env.scope scope p)(hf:A.frames=some X.stack)(hh:A.handled=none)(hd:A.depth<recursionLimit)
  (hp:(f,PySem.W.kla_obj "<lambda>" qual params body scope (cQ X.env.cells scope.names []) pm c' ctv)∈pins) (hc:s.heap.CodeRec (.ref c') qual)
  (hb:bindArgs (PySem.W.kla_fn "<lambda>" qual params body scope (cQ X.env.cells scope.names []) pm (.ref c') ctv) #[[u],[]]=pure [(p,u)]) (rv:RelV v u)
  (hbody:PE (X.lam A s H p (rV X qual scope s.heap.objs.size f (.ref c'))) body te) (ht:te (some v::σ) H Q):wpAny (model X.prog X.w) A (call (.ref f) [u]) (EP X pins σ Q) (λ_ _=>False) s:=by
 refine wpAny_call (PySem.W.kla_callFunE hd (I.pin _ (Yo _ hp)).1 rfl L.co L.gen rfl hc ?_);rw[hb];refine wpAny_pure (wpAny_newFunctionEnv L.mi (λx hx=>?_) (λh1 hns hsb=>#[?_,?_]) L.kind)
 .have hx:x=(p,u):=by simpa using hx
  rw[hx];exact L.par
 .exact I.nolimit.keeps λb o e=>hsb.extBut b o (Yj (Heap.lt_size e)) (Heap.get?_push_of_some _ e)
 .show codeAny _ _ (.expr body (rV X qual scope s.heap.objs.size f (.ref c'))) _ _;have J:=OR (qual:=qual) (f:=f) (cd:=.ref c') (n:=[(p,u)].length) I L hf hh rv hns hsb;refine PySem.W.kla_codeExpr (wpAny_mono (hbody [] _ _ H Q J ht) (λr s' h=>?_) λe s' z=>absurd z id);obtain⟨v',H',J',r',q'⟩:=h;exact I.after #[v',H',J'.os,J'.bare,J'.base,J'.aJ,r',q']
end
def TabOf(Pt:Addr)(pos:Pos)(qual:Str)(H:Hp):Prop:=
 H Pt=some (.bK #[])\/∃c,H Pt=some (.bK [rawInt pos.line,rawInt pos.col,.ref c].toArray)/\H c=some (.ext λh=>h.CodeRec (.ref c) qual)
structure Fi(mg:ZQ)(base:Heap)(cdv:Value)(Pt:Addr):Prop where
 code:∃c,cdv=.ref c/\PySem.W.CodeHd base c Pt
 bmod:aX λbm o=>mg "__builtins__"=some (.ref bm)/\bm≠builtinsNs/\bm≠mainGlobals/\base.get? bm=some o/\o.cls=.type "module"/\o.dict=some builtinsNs/\o.data=.plain
def zg(Pt:Addr)(H H':Hp):Prop:=∀b o,H b=some o->b≠Pt->H' b=some o
def OT{c:Addr}:∀h1 h2:Heap,h1.CodeRec (.ref c) qual->(∀o,h1.get? c=some o->h2.get? c=some o)->h2.CodeRec (.ref c) qual:=λh1 h2 x k=>by
 obtain⟨c2,o,vs,t,e,e1,e2,e3⟩:=x;cases e;exact#[c,o,vs,t,rfl,k o e1,e2,e3]
section
variable{E:ZJ}{p:Str}{W:ZJ}
def Inv.grown{h':Heap}{ps more:Array Value}(I:Inv X pins σ H s)(hP:H Pt=some (.bK ps))(hx:Heap.ExtBut Pt s.heap h')(ht:h'.get? Pt=some {cls:=.none,data:=.fields (ps++more)}):Inv X pins σ (upd H Pt (.bK (ps++more))) {s with heap:=h',toks:=tk}:=by
 have ne:∀b,H b=none->b≠Pt:=λb h z=>by rw[z,hP]at h;cases h
 refine I.step (g':=s.gens) (d':=s.drawn) (ch:=[]) (λ_ z=>nomatch z) (λb o _ _ _ e n=>hx b o (ne b n) e) (λb o _ _ _ e n=>#[o.slots,hx b o (ne b n) e]) (λb o _ _ n=>by rw[ae (ne b n)];exact n)
  (λb o _ e=>?_) (λb xs e=>?_) (λb o u e=>?_) (λb qs e=>?_) (λm hm=>?_) (λb u e=>?_) I.bare
 .by_cases q:b=Pt
  .exact#[_,by rw[q];exact ht]
  .exact#[o,hx b o q e]
 .rw[ae (λz=>by rw[z,hP]at e;cases e)];exact e
 .rw[ae (λz=>by rw[z,hP]at e;cases e)];exact e
 .by_cases q:b=Pt
  .subst q;rw[hP]at e;cases e;exact#[more,ab]
  .exact#[#[],by rw[ae q,e];simp]
 .obtain⟨o,es,ep,ho,r⟩:=hm;exact#[o,es,ep,hx _ o (ne _ I.free) ho,r]
 .by_cases q:b=Pt
  .subst q;rw[ab]at e;cases e;exact ht
  .rw[ae q]at e;have own:∀c,H c=some (.own b)->c≠Pt:=λc h z=>by rw[z,hP]at h;cases h
   refine(I.aJ b u e).gQ (λc v hc r=>hx c v ?_ r) (λc r=>by rw[ae (own c r)];exact r) λc xs r=>by rw[ae (λz=>by rw[z,hP]at r;cases r)];exact r
   rcases hc with z|z
   .rw[z];exact q
   .exact own c z
def OU(I:Inv X pins σ H s)(hex:X.ex=[])(L:pK X.N X.env.scope scope p)(B:Fi X.mg X.base X.env.code Pt)(T:TabOf Pt pos (X.env.qual++"<lambda>") H)(hdef:defaultsOf params X.env=([],[]))
  (h:∀(f c':Addr) (pm ctv:Value) (s':Shared) (H':Hp),zg Pt H H'->TabOf Pt pos (X.env.qual++"<lambda>") H'->H' c'=some (.ext λh=>h.CodeRec (.ref c') (X.env.qual++"<lambda>"))->
   (∀b o,b≠Pt->s.heap.get? b=some o->s'.heap.get? b=some o)->
   Inv X (pins++[(f,PySem.W.kla_obj "<lambda>" (X.env.qual++"<lambda>") params body scope (cQ X.env.cells scope.names []) pm c' ctv)]) σ H' s'->W (.ref f) s'):
  wpAny (model X.prog X.w) X.A (eval (.Lambda params body scope pos) X.env) W E s:=by
 refine PySem.W.kla_eval hdef ?_;have hcl:closureFor scope X.env=pure (cQ X.env.cells scope.names []):=EA (Fh I L);obtain⟨c,hcd,hC⟩:=B.code;obtain⟨bm,bo,b1,b2,b3,b4,b5,b6,b7⟩:=B.bmod;have hg:s.heap.Ns mainGlobals X.mg:=I.mod.glob.keeps I.bk;have tr:∃o,H Pt=some o:=by
  rcases T with T|⟨_,T,_⟩
  .exact#[_,T]
  .exact#[_,T]
 obtain⟨oP,OV⟩:=tr;have nb:∀b o,X.base.get? b=some o->b≠Pt:=λb o e z=>by
  have q:=(I.bs b o e).2;rw[z,OV]at q;cases q
 have hgP:mainGlobals≠Pt:=by
  obtain⟨o,_,_,e,_⟩:=I.mod.glob;exact nb _ o e
 have hb:s.heap.BuiltinsAt X.mg Pt:=#[bm,bo,b1,b2,b3,nb _ _ b4,I.bk _ _ b4,b5,b6,b7]
 have Fj:∀ {H':Hp} {h':Heap} {tk:Nat} {ob:Obj},Inv X pins σ H' {s with heap:=h',toks:=tk}->ob.isFreed=false->(∀v,ob.data≠.cell v)->Inv X (pins++[(h'.objs.size,ob)]) σ H' {s with heap:=h'.push ob,toks:=tk}:=λ{H' h' tk ob} J nf nc=>by
  have J2:=J.kept (h':=h'.push ob) (t':=tk) λb o e=>Heap.get?_push_of_some _ e;refine J2.uE λq hq=>?_;rcases Yr.mp hq with z|z
  .exact J2.pin q (Yo _ z)
  .have z:q=(h'.objs.size,ob):=by simpa using z
   subst z;have fk:cw X pins H' h'.objs.size:=J.iH (X0 _) (J.aJ.fresh (X0 _));exact#[Heap.get?_push_size _ nf,fk.1,fk.2.1,fk.2.2.1,nc]
 rcases T with T|⟨c',T,Tc⟩
 .have hP:s.heap.get? Pt=some (PySem.W.tabObj #[]):=I.aJ _ _ T;refine PySem.W.kla_makeFunction (mg:=X.mg) hcl I.ok.glob hg hcd (hC.keeps I.bk) hP trivial rfl hgP hb λc' ctv h' tk hx hge hlt hrec htb=>?_;have J1:=I.grown (tk:=tk) T hx htb;have nc:upd H Pt (.bK (#[]++[rawInt pos.line,rawInt pos.col,.ref c'].toArray)) c'=none:=by
   rw[ae (λz=>absurd (Yf (Heap.lt_size hP) (by rw[<-z];exact hge)) (YL _))];exact I.aJ.fresh hge
  obtain⟨oc,hoc⟩:∃oc,h'.get? c'=some oc:=by
   obtain⟨_,oc,_,_,e,e1,_⟩:=hrec;cases e;exact#[oc,e1]
  have J2:=J1.Fg (o:=.ext λh=>h.CodeRec (.ref c') (X.env.qual++"<lambda>")) hex (I.iH hge nc) #[hrec,#[oc,hoc],OT];refine h h'.objs.size c' _ ctv _ _ ?_ (.inr #[c',?_,ab]) ab (λb o n e=>Heap.get?_push_of_some _ (hx b o n e)) (Fj J2 rfl λv z=>by cases z)
  .intro b o e n;rw[ae (λz=>by rw[z,I.aJ.fresh hge]at e;cases e),ae n];exact e
  .rw[ae (λz=>absurd (Yf (Heap.lt_size hP) (by rw[z];exact hge)) (YL _)),ab];rfl
 .have hP:s.heap.get? Pt=some (PySem.W.tabObj [rawInt pos.line,rawInt pos.col,.ref c'].toArray):=I.aJ _ _ T;refine PySem.W.kla_makeFunctionHit (mg:=X.mg) (cv:=.ref c') hcl I.ok.glob hg hcd (hC.keeps I.bk) hP (by trivial) (by simp[codeAmong,rawInt]) hb λctv h' tk hk hsz=>?_;have J1:=I.kept (h':=h') (t':=tk) hk;exact h h'.objs.size c' _ ctv _ _ (λb o e _=>e) (.inr #[c',T,Tc]) Tc (λb o _ e=>Heap.get?_push_of_some _ (hk b o e)) (Fj J1 rfl λv z=>by cases z)
end
def OW:gU X (.type "range") (λxs H Q=>∃n:Int,xs=[.int n]/\∀r,H r=none->Q (.ref r) (upd H r (.oX 0 n))):=by
 intro pins s σ H xs us Q I r h;obtain⟨n,rfl,q⟩:=h;obtain⟨u,rfl,ru⟩:=vals1 r;obtain⟨t,rfl⟩:=ru;refine call_range_1 #[.ref s.heap.objs.size,upd H s.heap.objs.size (.oX 0 n),?_,rfl,q _ (I.aJ.fresh (X0 _))];exact I.laid (t':=s.toks+1+1) (λb o e=>Heap.get?_push_of_some _ e) (X0 _) #[_,_,_,Heap.get?_push_size _ rfl]
def TabOf.mono(t:TabOf Pt pos qual H)(s:ag H H'):TabOf Pt pos qual H':=by
 rcases t with t|⟨c,t,u⟩
 .exact .inl (s _ _ t)
 .exact .inr #[c,s _ _ t,s _ _ u]
theorem TabOf.bK(t:TabOf Pt pos qual H):∃ps,H Pt=some (.bK ps):=by
 rcases t with t|⟨c,t,_⟩
 .exact#[_,t]
 .exact#[_,t]
inductive OX(Pt:Addr)(pos:Pos)(qual:Str)(tb:TE)(σ:St)(Q:VK)(xs:List V)(H1:Hp):Prop|mk(r:Addr)(n:Nat)(key:Nat->Nat)(_:xs=[.ref r])(_:H1 r=some (.oX 0 (n:Int)))(_:n<64)(_:TabOf Pt pos qual H1)(_:(∀(i:Nat) (H2:Hp),i<n->zg Pt H1 H2->tb (some (.int (i:Nat))::σ) H2 λy H3=>y=.int (key i:Nat)/\ag H2 H3))(_:∀(order:List Nat) (D:Addr) (H3:Hp),order.Perm (List.range n)->(order.Pairwise λi j=>key i<=key j)->zg Pt H1 H3->TabOf Pt pos qual H3->H3 D=none->Q (.ref D) (upd H3 D (.lst (order.map λi=>V.int (i:Nat)))))
def OY(Pt:Addr)(pos:Pos)(qual:Str)(ta:TA)(tb:TE):TE:=λσ H Q=>ta σ H λxs H1=>OX Pt pos qual tb σ Q xs H1
def OZ{p:Str}{ps vw:Pos}(hc:X.calm=true)(hex:X.ex=[])(hr:bR k X.A)(hg:Gl X "sorted")(hm:X.mg "sorted"=none)
  (L:pK X.N X.env.scope scope p) (B:Fi X.mg X.base X.env.code Pt) (ha:PA X [ea] ta)
  (hb:∀(s:Shared) (H:Hp) (C f:Addr) (cd:Value),PE (X.lam X.A.in1.in1 s H p (rV X (X.env.qual++"<lambda>") scope C f cd)) body tb)
  (hbind:∀(cl:List (Str×Addr)) (pm cdv ct u:Value),bindArgs (PySem.W.kla_fn "<lambda>" (X.env.qual++"<lambda>") params body scope cl pm cdv ct) #[[u],[]]=pure [(p,u)])
  (hdef:defaultsOf params X.env=([],[]):=by rfl) (he:starEach [ea] X.env=(false,eval ea X.env)::starEach [] X.env:=by rfl):
  PE X (.Call (.Name "sorted" ps) [ea] [#[some "key",.Lambda params body scope vw,kp]] pos) (OY Pt vw (X.env.qual++"<lambda>") ta tb):=by
 intro pins s σ H Q I h;refine wpAny_Call_Name_kw (ja I hg hm (show bootBuiltins "sorted"=some (.builtin "sorted") by decide+kernel) ?_);have hpl:(backTo pos (starEach [ea] X.env)).any (·.1)=false:=by rw[he];rfl
 have he':backTo pos (starEach [ea] X.env)=(false,eval ea X.env)::backTo pos (starEach [] X.env):=by rw[he];rfl
 refine callWith_kw (aN (ha pos pins s σ H _ I h) λus s1 ⟨xs,H1,I1,r1,r,n,key,ex,Fl,hn,T,turn,fin⟩=>?_) he' hpl;subst ex;obtain⟨u,rfl,ru⟩:=vals1 r1;cases ru;show wpAny _ X.A (evalAll [do let v<-eval (.Lambda params body scope vw) X.env;standAt pos;pure v]) _ _ s1;refine evalAll_cons (wpAny_bind (OU (pos:=vw) I1 hex L B T hdef λf c' pm ctv s2 H2 sm T2 hc2 Xh I2=>wpAny_bind (wpAny_standAt (wpAny_pure (evalAll_nil ?_)))));show wpAny _ X.A (call (.builtin "sorted") [.ref r] [(Str.ofString "key",.ref f)]) _ _ s2;have nP:r≠Pt:=λz=>by
  obtain⟨_,q⟩:=T.bK;rw[<-z,Fl]at q;cases q
 obtain⟨t,u,v,hrr⟩:=I2.aJ r _ (sm _ _ Fl nP);refine OQ key hc hex I2 hrr hn (λi q hi Xi s3 H3 hps jR I3=>?_) λorder D s3 H3 o1 o2 jR nD I3=>#[.ref D,_,I3.ng,rfl,fin order D H3 o1 o2 (λb o e z=>jR _ _ (sm b o e z)) (T2.mono jR) nD]
 have vx:s3.heap.CodeRec (.ref c') (X.env.qual++"<lambda>"):=(I3.aJ _ _ (jR _ _ hc2)).1;refine aN (OS (te:=tb) (v:=V.int (i:Nat)) (Q:=λy H4=>y=.int (key i:Nat)/\ag H3 H4) I3 L I3.ok.frames (I3.ok.hd hc) hr.depth (hps _ (Yo _ (Y0.mpr rfl))) vx (hbind _ _ _ _ _) #[q,rfl] (hb _ _ _ _ _) (turn i H3 hi λb o e z=>jR _ _ (sm b o e z))) λr4 s4 h4=>?_;obtain⟨y,H4,I4,ry,ey,vy⟩:=h4;subst ey;obtain⟨t4,rfl⟩:=ry;exact#[t4,H4,rfl,vy,I4]
section
variable{L:List Addr}
def off(L:List Addr)(H:Hp):Hp:=λb=>if b∈L then none else H b
def Fm(h:a∈L):off L H a=none:=if_pos h
def dC(h:a∉L):off L H a=H a:=if_neg h
def rW(h:off L H a=some o):a∉L/\H a=some o:=by
 by_cases c:a∈L
 .rw[Fm c]at h;cases h
 .rw[dC c]at h;exact#[c,h]
def vz:ag (off L H) H:=λ_ _ e=>(rW e).2
def zh(s:ag H H'):ag (off L H) (off L H'):=λb o e=>by
 obtain⟨c,e⟩:=rW e;rw[dC c];exact s _ _ e
def cV(L:List Addr)(H H':Hp):Hp:=λb=>if b∈L then H b else H' b
def mj(h:a∈L):cV L H H' a=H a:=if_pos h
def jS(h:a∉L):cV L H H' a=H' a:=if_neg h
def Fn(L:List Addr)(t:TE):TE:=λσ H Q=>(∀a∈L,∃xs,H a=some (.lst xs))/\t σ (off L H) λv H'=>(∀a∈L,H' a=none)->Q v (cV L H H')
theorem vA{t:TE}(h:PE X e t):∀(L:List Addr),L.Nodup->PE X e (Fn L t)
 |[],_=>λpins s σ H Q I ht=>by
  have e1:off [] H=H:=funext λb=>if_neg (by simp);have e2:(λv H'=>(∀a∈([]:List Addr),H' a=none)->Q v (cV [] H H'))=Q:=by
   funext v H'
   have e3:cV [] H H'=H':=funext λb=>if_neg (by simp);rw[e3];exact propext #[λk=>k (by simp),λk _=>k]
  have h2:=ht.2;rw[e1,e2]at h2;exact h pins s σ H Q I h2
 |a::L,nd=>λpins s σ H Q I ⟨hl,ht⟩=>by
  obtain⟨na,nd⟩:=Y5.mp nd;obtain⟨xs,hx⟩:=hl a (by simp);refine dO (vA h L nd) pins s σ H Q I #[a,xs,hx,λb hb=>?_,?_]
  .obtain⟨ys,hy⟩:=hl b (by simp[hb]);have ne:b≠a:=λz=>na (by rw[<-z];exact hb);exact#[ys,by rw[cE ne];exact hy]
  .have e1:off L (del H a)=off (a::L) H:=funext λb=>by
    unfold off del;by_cases c:b=a
    .simp[c]
    .simp[c]
   have e2:(λv H'=>(∀b∈L,H' b=none)->cV L (del H a) H' a=none->Q v (upd (cV L (del H a) H') a (.lst xs)))=λv H'=>(∀b∈a::L,H' b=none)->Q v (cV (a::L) H H'):=by
    funext v H'
    have e3:cV L (del H a) H' a=H' a:=jS na;have e4:upd (cV L (del H a) H') a (.lst xs)=cV (a::L) H H':=funext λb=>by
     by_cases c:b=a
     .rw[c,ab,mj (by simp),hx]
     .rw[ae c];by_cases d:b∈L
      .rw[mj d,mj (by simp[d]),cE c]
      .rw[jS d,jS (by simp[c,d])]
    rw[e3,e4];refine propext #[λk m=>k (λb hb=>m b (by simp[hb])) (m a (by simp)),λk m1 m2=>k λb hb=>?_];rcases X5.mp hb with z|z
    .rw[z];exact m2
    .exact m1 b z
   show t σ (off L (del H a)) _;rw[e1];exact(congrArg (t σ (off (a::L) H)) e2).mpr ht
end
def vB(K:ZX){t:m8}(hc:X.calm=true)(h:rq X es t)(hK:X.K=K:=by rfl)(hn:(assignEach es X.env).length=n:=by rfl)(hst:(assignEach es X.env).findIdx? (·.1)=none:=by rfl):PG X (.Tuple es k pos) (DE K n t):=hK▸uI hc h hn hst
theorem vC{β:Type}{Qd:Hp->Prop}(R:Hp->V->β->Prop)(mono:∀H H' v y,ag H H'->R H v y->R H' v y)(ys:List β)(hz:ys.length<=sizeLine)(hD:H1 D=none)
  (hs:∀i y H,ys[i]?=some y->ag H1 (del H D)->(∃acc,H D=some (.lst acc))->J.go i H/\∀x H',J.fD i H x H'->∃σ2,(∀R:St->Hp->Prop,R σ2 H'->g x (wipe σ vs) H' R)/\wipe σ2 vs=wipe σ vs/\ag H H'/\∀Q:VK,(∀v H3,ag (del H' D) H3->R H3 v y->Q v H3)->te σ2 (del H' D) Q)
  (hst:∀H,ag H1 (del H D)->J.stop ys.length H)
  (hd:∀H acc,H D=some (.lst acc)->ag H1 (del H D)->Paired (R (del H D)) acc ys->Qd H):
  ∃W:Nat->Nat->Hp->Prop,(∃m,W 0 m (upd H1 D (.lst [])))/\∀i m H,W i m H->
   (J.stop i H/\Qd H)\/(J.go i H/\∃Nx:Hp->Prop,(∀H',Nx H'->∃m',m'<m/\W (i+1) m' H')/\∀x H',J.fD i H x H'->g x (wipe σ vs) H' λσ2 H2=>wipe σ2 vs=wipe σ vs/\nz σ2 H2 λb H3=>
    if b=true then vo te σ2 H3 λy H4=>∃acc,H4 D=some (.lst acc)/\acc.length<sizeLine/\Nx (upd H4 D (.lst (acc++[y])))else Nx H3):=by
 refine y9 (n:=ys.length) (λi H=>ag H1 (del H D)/\∃acc,H D=some (.lst acc)/\Paired (R (del H D)) acc (ys.take i)) ?_ (λi H hi p=>?_) (λH p=>?_)
 .rw[cf hD];exact#[ag.refl _,[],ab,.nil]
 .obtain⟨s1,acc,hA,pr⟩:=p;obtain⟨y,hy⟩:∃y,ys[i]?=some y:=#[_,XT hi]
  obtain⟨go,yl⟩:=hs i y H hy s1 #[acc,hA];refine#[go,λx H' yy=>?_];obtain⟨σ2,gk,wk,sH,q⟩:=yl x H' yy;have hA':=sH _ _ hA;have sD:ag (del H D) (del H' D):=λb o e=>by
   obtain⟨e1,e2⟩:=iP e;rw[cE e1];exact sH _ _ e2
  refine gk _ #[wk,?_];unfold nz;dsimp only;rw[if_pos rfl];refine#[D,acc,hA',q _ λv H3 s2 r hn=>#[acc,ab,?_,?_]]
  .have:=pr.length;rw[YF]at this
   lia
  .rw[L2.d7,cf hn];refine#[(s1.trans sD).trans s2,acc++[v],ab,?_];rw[take_snoc hy];exact Paired.snoc (Paired.aY pr λa b z=>mono _ _ a b (sD.trans s2) z) r
 .obtain⟨s1,acc,hA,pr⟩:=p;rw[YO]at pr;exact#[hst H s1,hd H acc hA s1 pr]
section
variable{R:Result->Shared->Prop}{P:Nat->Value->Prop}{St:Nat->Heap->Prop}{Ok:Heap->Prop}
theorem O0(W:Walks prog w A.in1 I fp wr n P St)(ml:∀h h':Heap,Ok h->(∀b o,b∉wr->b≠S->h.get? b=some o->h'.get? b=some o)->Ok h')
  (cmp:∀i j x y (t:Shared) (Q E:ZJ),Ok t.heap->P i x->P j y->Q (.bool (bt i j)) t->wpAny (model prog w) A.in1 (richCompare .Lt x y) Q E t) (nS:S∉fp):∀(m j:Nat) (t:Shared) (x:Value) (c:Nat),n-(j+1)=m->j+1<=n->St (j+1) t.heap->Ok t.heap->P (argBest bt j) x->
  t.heap.get? S=some (seqObj "list" [x,x].toArray c)->(∀v g tk,P (argBest bt (n-1)) v->(∀b o,b∉wr->b≠S->t.heap.get? b=some o->g.get? b=some o)->R (.ok (.ret v)) {t with heap:=g,toks:=tk})->
  codeAny (model prog w) A (.builtin "min.loop" #[[.ref I,.none,.ref S],[]]) R t:=by
 have nw:S∉wr:=λh=>nS (W.sub _ h);have nm:(toString "min"++toString ".loop":String)="min.loop":=by decide
 intro m
 induction m with
 |zero=>
  intro j t x c em hj st ok px hS hR;have ej:j+1=n:=by lia
  refine codeAny_builtin Z4 ?_;rw[Around.under_plainId YR _];refine wpAny_bind (m:=seqItems? (.ref S)) (wpAny_seqItems hS rfl (wpAny_bind (wpAny_tryCatch (W.done t _ _ (ej▸st) λg tk kp=>?_))));exact wpAny_bind (m:=updateSeq S λ_=>#[]) (wpAny_updateSeq (kp S _ nw hS) rfl (wpAny_bind (wpAny_letGo (wpAny_pure (hR x _ tk (by rw[<-ej];exact px) λb o b1 b2 e=>(Heap.get?_update_other _ _ (Ne.symm b2)).trans (kp b o b1 e))))))
 |succ m ih=>
  intro j t x c em hj st ok px hS hR;refine codeAny_builtin Z4 ?_;rw[Around.under_plainId YR _];refine wpAny_bind (m:=seqItems? (.ref S)) (wpAny_seqItems hS rfl (wpAny_bind (wpAny_tryCatch (W.item (j+1) t _ _ (by lia) st λv g tk pv st2 kp=>?_))));have hS2:=kp S _ nw hS;have ok2:Ok g:=ml _ _ ok λb o b1 _ e=>kp b o b1 e;refine wpAny_bind (m:=tryCatch (holding [v,v] (richCompare .Lt v x>>=_)) _) (wpAny_tryCatch (wpAny_holding (wpAny_bind (cmp (j+1) (argBest bt j) v x _ _ _ ok2 pv px (wpAny_bind (wpAny_holding (wpAny_truthy_bool (wpAny_bind (wpAny_letGo (wpAny_pure ?_))))))))));cases hb:bt (j+1) (argBest bt j)with
  |true=>
   simp only[if_true];refine wpAny_bind (wpAny_updateSeq hS2 rfl (wpAny_bind (wpAny_letGo ?_)));rw[nm];refine wpAny_pure #[plainId_quiet YR _,ih (j+1) _ v _ (by lia) (by lia) (W.frame _ _ _ st2 λb bf o e=>?_) (ml _ _ ok2 λb o _ b2 e=>(Heap.get?_update_other _ _ (Ne.symm b2)).trans e) (by simp only[argBest,hb,if_true];exact pv) (Heap.get?_update_self _ hS2 rfl) λv2 g2 tk2 p2 k2=>?_]
   .exact(Heap.get?_update_other _ _ (λz:S=b=>nS (by rw[z];exact bf))).trans e
   .exact hR v2 g2 tk2 p2 λb o b1 b2 e=>k2 b o b1 b2 ((Heap.get?_update_other _ _ (Ne.symm b2)).trans (kp b o b1 e))
  |false=>
   simp only[Y_,if_false];refine wpAny_bind (wpAny_letGo ?_);rw[nm];refine wpAny_pure #[plainId_quiet YR _,ih (j+1) _ x c (by lia) (by lia) st2 ok2 (by simp only[argBest,hb,Y_,if_false];exact px) hS2 λv2 g2 tk2 p2 k2=>?_];exact hR v2 g2 tk2 p2 λb o b1 b2 e=>k2 b o b1 b2 (kp b o b1 e)
def O1(W:Walks prog w A.in1 I fp wr n P St)(ml:∀h h':Heap,Ok h->(∀b o,b∉wr->b≠S->h.get? b=some o->h'.get? b=some o)->Ok h')
  (cmp:∀i j x y (t:Shared) (Q E:ZJ),Ok t.heap->P i x->P j y->Q (.bool (bt i j)) t->wpAny (model prog w) A.in1 (richCompare .Lt x y) Q E t) (nS:S∉fp) (hn:0<n) {t:Shared} {c:Nat} (st:St 0 t.heap) (ok:Ok t.heap) (hS:t.heap.get? S=some (seqObj "list" #[] c))
  (hR:∀v g tk,P (argBest bt (n-1)) v->(∀b o,b∉wr->b≠S->t.heap.get? b=some o->g.get? b=some o)->R (.ok (.ret v)) {t with heap:=g,toks:=tk}):codeAny (model prog w) A (.builtin "min.loop" #[[.ref I,.none,.ref S],[]]) R t:=by
 have nw:S∉wr:=λh=>nS (W.sub _ h);have nm:(toString "min"++toString ".loop":String)="min.loop":=by decide
 refine codeAny_builtin Z4 ?_;rw[Around.under_plainId YR _];refine wpAny_bind (m:=seqItems? (.ref S)) (wpAny_seqItems hS rfl (wpAny_bind (wpAny_tryCatch (W.item 0 t _ _ hn st λv g tk pv st2 kp=>?_))));have hS2:=kp S _ nw hS;have ok2:Ok g:=ml _ _ ok λb o b1 _ e=>kp b o b1 e;refine wpAny_bind (m:=updateSeq S λ_=>[v,v].toArray) (wpAny_updateSeq hS2 rfl ?_);rw[nm];refine wpAny_pure #[plainId_quiet YR _,O0 W ml cmp nS _ 0 _ v _ rfl hn (W.frame _ _ _ st2 λb bf o e=>?_) (ml _ _ ok2 λb o _ b2 e=>(Heap.get?_update_other _ _ (Ne.symm b2)).trans e) pv (Heap.get?_update_self _ hS2 rfl) λv2 g2 tk2 p2 k2=>?_]
 .exact(Heap.get?_update_other _ _ (λz:S=b=>nS (by rw[z];exact bf))).trans e
 .exact hR v2 g2 tk2 p2 λb o b1 b2 e=>k2 b o b1 b2 ((Heap.get?_update_other _ _ (Ne.symm b2)).trans (kp b o b1 e))
end
inductive O2(K:ZX)(vs:List V)(H:Hp)(Q:VK):Prop|mk(a:Addr)(xs:List V)(ns:List (List Int))(_:vs=[V.ref a])(_:af K H a xs)(_:Paired (λv n=>∃t,v=.ref t/\H t=some (.tup (n.map V.int))) xs ns)(_:0<xs.length)(_:∀v,xs[argBest (λi j=>HT.lexLt (ns.getD i []) (ns.getD j [])) (xs.length-1)]?=some v->Q v H)
theorem O4(hu:X.A.units+64<cLine)(hc:X.calm=true):gU X (.builtin "min") (O2 X.K):=by
 intro pins s σ H vs us Q I r h;obtain⟨a,xs,ns,rfl,hs,pr,hne,q⟩:=h;obtain⟨its,rv,hl,_⟩:=I.list hs;rw[Vals.yG r];have hh:=I.ok.hd hc;have nm:(toString "min"++toString ".loop":String)="min.loop":=by decide
 have li:=rv.length;have hl:=hl.isList;refine call_function_tree PySem.F.kind_min PySem.F.plain_min PySem.F.entry_min (PySem.F.args_min1 _) ?_;refine wpAny_bind (m:=Builtin.Builtins.bindParams "min" ["key","default"] 0 #[[],[]]) (wpAny_of_eq (show Builtin.Builtins.bindParams "min" ["key","default"] 0 #[[],[]]=pure [none,none]from rfl) (wpAny_bind (wpAny_pure ?_)));have fit:∀(i:Nat) (v:Value),its[i]?=some v->aX λb u=>v=.ref b/\IsTup s.heap b u/\IntsAre u.toList (ns.getD i []):=λi v e=>by
  obtain⟨x,ex,rx⟩:∃x,xs[i]?=some x/\RelV x v:=by
   have hi:=(XZ.mp e).1;obtain⟨v',e',r'⟩:=rv.get (XT (show i<xs.length by lia));rw[e]at e';cases e';exact#[_,XT (by lia),r']
  obtain⟨y,ey,b,rfl,hb⟩:=Paired.getL pr ex;obtain⟨its2,r2,p2,_⟩:=I.tuple (aI.of hb);cases rx;refine#[b,_,rfl,p2,?_];rw[XU,ey];exact intsAre_of r2
 refine wpAny_bind (wpAny_pyIter_list hl (wpAny_bind (wpAny_newObj_type ?_)));rw[nm];have la:a<s.heap.objs.size:=by obtain⟨_,e,_⟩:=hl;exact Heap.lt_size e
 have kp:∀b o,s.heap.get? b=some o->((s.heap.push {cls:=.type "list_iterator",data:=.fields [.ref a,.int 0 0].toArray}).push {cls:=.type "list",data:=.seq #[] 0}).get? b=some o:=λb o e=>Heap.get?_push_of_some _ (Heap.get?_push_of_some _ e);have z1:(s.heap.push {cls:=.type "list_iterator",data:=.fields [.ref a,.int 0 0].toArray}).objs.size=s.heap.objs.size+1:=Heap.size_push ..;refine wpAny_pure #[plainId_quiet YR _,O1 (Ok:=λh=>∀(i:Nat) (v:Value),its[i]?=some v->aX λb u=>v=.ref b/\IsTup h b u/\b<s.heap.objs.size/\IntsAre u.toList (ns.getD i [])) (Walks.list (A:=X.A.in1) hh s.heap.objs.size a (Yj la) its.toArray) (λh h' o k i v e=>?_) (bt:=λi j=>HT.lexLt (ns.getD i []) (ns.getD j [])) (λi j x y t Q E o ex ey hq=>?_) ?_ (by simpa[li]using hne) #[#[_,Heap.get?_push_of_some _ (Heap.get?_push_size _ rfl),rfl,rfl],hl.at λo e=>kp a o e] (λi v e=>?_) (Heap.get?_push_size _ rfl) λv g tk pv k=>?_]
 .obtain⟨b,u,e1,⟨o1,e2,r2⟩,lb,e3⟩:=o i v e;exact#[b,u,e1,#[o1,k b o1 (by simp;exact Yj lb) (by rw[z1];exact Yj (YT lb)) e2,r2],lb,e3]
 .obtain⟨b,u,rfl,e2,_,e3⟩:=o i x (by simpa using ex);obtain⟨c,u2,rfl,f2,_,f3⟩:=o j y (by simpa using ey);exact(HT.MG e2 f2 e3 f3 (A:=X.A.in1) (by rw[Around.in1_units];lia) hq:wpAny _ _ (compareOp .Lt (.ref b) (.ref c)) Q E t)
 .rw[z1];intro h;rcases X5.mp h with z|z
  .exact Z7 _ z
  .exact absurd (Y0.mp z) (Zr (YT la))
 .obtain⟨b,u,e1,⟨o1,e2,r2⟩,e3⟩:=fit i v e;exact#[b,u,e1,#[o1,kp b o1 e2,r2],Heap.lt_size e2,e3]
 .have hz:its.toArray.size-1=xs.length-1:=by simp[li]
  rw[hz]at pv;obtain⟨x,ex,rx⟩:∃x,xs[argBest (λi j=>HT.lexLt (ns.getD i []) (ns.getD j [])) (xs.length-1)]?=some x/\RelV x v:=by
   have mm:its[argBest (λi j=>HT.lexLt (ns.getD i []) (ns.getD j [])) (xs.length-1)]?=some v:=by simpa using pv
   have hi:=(XZ.mp mm).1;obtain⟨v',e',r'⟩:=rv.get (XT (show argBest (λi j=>HT.lexLt (ns.getD i []) (ns.getD j [])) (xs.length-1)<xs.length by lia));rw[mm]at e';cases e';exact#[_,XT (by lia),r']
  refine#[x,H,I.kept λb o e=>k b o ?_ ?_ (kp b o e),rx,q x ex]
  .simp;exact Yj (Heap.lt_size e)
  .rw[z1];exact Yj (YT (Heap.lt_size e))
inductive O5(K:ZX)(x:V)(vs:List V)(H:Hp)(Q:VK):Prop|mk(l:Addr)(k:Int)(ns:List Int)(_:x=.ref l)(_:vs=[.int k])(_:af K H l (ns.map V.int))(_:Q (.int (ns.count k:Nat)) H)
def O6(K:ZX)(hK:X.K=K:=by rfl):nv X "list.count" (O5 K):=by
 subst hK;intro pins s σ H x vs v us Q I rx rv h;obtain⟨l,k,ns,rfl,rfl,hs,q⟩:=h;cases rx;obtain⟨u,rfl,t,rfl⟩:=rv.one;obtain⟨its,ri,hl,_⟩:=I.list hs;exact count_list_ints hl.isList ri.ints #[.int _,H,I.kept (h':=s.heap) (t':=s.toks+1) λ_ _ e=>e,#[_,rfl],q]
inductive O7(K:ZX)(x:V)(vs:List V)(H:Hp)(Q:VK):Prop|mk(l:Addr)(k:Bool)(bs:List Bool)(_:x=.ref l)(_:vs=[.bl k])(_:af K H l (bs.map V.bl))(_:Q (.int (bs.count k:Nat)) H)
theorem Fo(h:Heap):∀bs:List Bool,ReadsAll h (bs.map Value.bool) (bs.map PyData.bool) []
 |[]=>.nil
 |b::bs=>ReadsAll.cons (as:=[]) (bs:=[]) (.bool b) (Fo h bs)
theorem Fp(k:Bool):∀bs:List Bool,countIn (.bool k) (bs.map PyData.bool)=((bs.count k:Nat):Int)
 |[]=>rfl
 |b::bs=>by
  rw[X7,countIn,Fp k bs,List.count_cons];cases b<;>cases k<;>simp[same]<;>lia
def Fq(K:ZX)(hK:X.K=K:=by rfl):nv X "list.count" (O7 K):=by
 subst hK;intro pins s σ H x vs v us Q I rx rv h;obtain⟨l,k,bs,rfl,rfl,hs,q⟩:=h;cases rx;obtain⟨u,rfl,ru⟩:=rv.one;cases ru;obtain⟨its,ri,hl,_⟩:=I.list hs;have e:=Vals.yF ri;subst e;refine count_list_bools hl.isList (Fo s.heap bs) (by simp[Shape.has]) #[.int _,H,I.kept (h':=s.heap) (t':=s.toks+1) λ_ _ e=>e,#[_,rfl],?_];rw[Fp];exact q
section
variable{R:Result->Shared->Prop}{P:Nat->Value->Prop}{St:Nat->Heap->Prop}{d:Value}
theorem O8(W:Walks prog w A.in1 I fp wr n P St)(cmp:CmpOf prog w A.in1 .Gt P bt)(nS:S∉fp):∀(m j:Nat) (t:Shared) (x:Value) (c:Nat),n-(j+1)=m->j+1<=n->St (j+1) t.heap->P (argBest bt j) x->
  t.heap.get? S=some (seqObj "list" [x,x].toArray c)->(∀v g tk,P (argBest bt (n-1)) v->(∀b o,b∉wr->b≠S->t.heap.get? b=some o->g.get? b=some o)->R (.ok (.ret v)) {t with heap:=g,toks:=tk})->
  codeAny (model prog w) A (.builtin "max.loop" #[[.ref I,.none,.ref S],[("default",d)]]) R t:=by
 have nw:S∉wr:=λh=>nS (W.sub _ h);have nm:(toString "max"++toString ".loop":String)="max.loop":=by decide
 intro m
 induction m with
 |zero=>
  intro j t x c em hj st px hS hR;have ej:j+1=n:=by lia
  refine codeAny_builtin Z5 ?_;rw[Around.under_plainId YS _];refine wpAny_bind (m:=seqItems? (.ref S)) (wpAny_seqItems hS rfl (wpAny_bind (wpAny_tryCatch (W.done t _ _ (ej▸st) λg tk kp=>?_))));exact wpAny_bind (m:=updateSeq S λ_=>#[]) (wpAny_updateSeq (kp S _ nw hS) rfl (wpAny_bind (wpAny_letGo (wpAny_pure (hR x _ tk (by rw[<-ej];exact px) λb o b1 b2 e=>(Heap.get?_update_other _ _ (Ne.symm b2)).trans (kp b o b1 e))))))
 |succ m ih=>
  intro j t x c em hj st px hS hR;refine codeAny_builtin Z5 ?_;rw[Around.under_plainId YS _];refine wpAny_bind (m:=seqItems? (.ref S)) (wpAny_seqItems hS rfl (wpAny_bind (wpAny_tryCatch (W.item (j+1) t _ _ (by lia) st λv g tk pv st2 kp=>?_))));have hS2:=kp S _ nw hS;refine wpAny_bind (m:=tryCatch (holding [v,v] (richCompare .Gt v x>>=_)) _) (wpAny_tryCatch (wpAny_holding (wpAny_bind (cmp (j+1) (argBest bt j) v x _ _ _ pv px (wpAny_bind (wpAny_holding (wpAny_truthy_bool (wpAny_bind (wpAny_letGo (wpAny_pure ?_))))))))));cases hb:bt (j+1) (argBest bt j)with
  |true=>
   simp only[if_true];refine wpAny_bind (wpAny_updateSeq hS2 rfl (wpAny_bind (wpAny_letGo ?_)));rw[nm];refine wpAny_pure #[plainId_quiet YS _,ih (j+1) _ v _ (by lia) (by lia) (W.frame _ _ _ st2 λb bf o e=>?_) (by simp only[argBest,hb,if_true];exact pv) (Heap.get?_update_self _ hS2 rfl) λv2 g2 tk2 p2 k2=>?_]
   .exact(Heap.get?_update_other _ _ (λz:S=b=>nS (by rw[z];exact bf))).trans e
   .exact hR v2 g2 tk2 p2 λb o b1 b2 e=>k2 b o b1 b2 ((Heap.get?_update_other _ _ (Ne.symm b2)).trans (kp b o b1 e))
  |false=>
   simp only[Y_,if_false];refine wpAny_bind (wpAny_letGo ?_);rw[nm];refine wpAny_pure #[plainId_quiet YS _,ih (j+1) _ x c (by lia) (by lia) st2 (by simp only[argBest,hb,Y_,if_false];exact px) hS2 λv2 g2 tk2 p2 k2=>?_];exact hR v2 g2 tk2 p2 λb o b1 b2 e=>k2 b o b1 b2 (kp b o b1 e)
theorem O9(W:Walks prog w A.in1 I fp wr n P St)(cmp:CmpOf prog w A.in1 .Gt P bt)(nS:S∉fp){t:Shared}{c:Nat}(st:St 0 t.heap)(hS:t.heap.get? S=some (seqObj "list" #[] c))
  (h0:n=0->∀g tk,(∀b o,b∉wr->b≠S->t.heap.get? b=some o->g.get? b=some o)->R (.ok (.ret d)) {t with heap:=g,toks:=tk})
  (hR:0<n->∀v g tk,P (argBest bt (n-1)) v->(∀b o,b∉wr->b≠S->t.heap.get? b=some o->g.get? b=some o)->R (.ok (.ret v)) {t with heap:=g,toks:=tk}):codeAny (model prog w) A (.builtin "max.loop" #[[.ref I,.none,.ref S],[("default",d)]]) R t:=by
 have nw:S∉wr:=λh=>nS (W.sub _ h);have nm:(toString "max"++toString ".loop":String)="max.loop":=by decide
 refine codeAny_builtin Z5 ?_;rw[Around.under_plainId YS _];by_cases hn:0<n
 .refine wpAny_bind (m:=seqItems? (.ref S)) (wpAny_seqItems hS rfl (wpAny_bind (wpAny_tryCatch (W.item 0 t _ _ hn st λv g tk pv st2 kp=>?_))));have hS2:=kp S _ nw hS;refine wpAny_bind (m:=updateSeq S λ_=>[v,v].toArray) (wpAny_updateSeq hS2 rfl ?_);rw[nm];refine wpAny_pure #[plainId_quiet YS _,O8 W cmp nS _ 0 _ v _ rfl hn (W.frame _ _ _ st2 λb bf o e=>?_) pv (Heap.get?_update_self _ hS2 rfl) λv2 g2 tk2 p2 k2=>?_]
  .exact(Heap.get?_update_other _ _ (λz:S=b=>nS (by rw[z];exact bf))).trans e
  .exact hR hn v2 g2 tk2 p2 λb o b1 b2 e=>k2 b o b1 b2 ((Heap.get?_update_other _ _ (Ne.symm b2)).trans (kp b o b1 e))
 .have e0:n=0:=by lia
  refine wpAny_bind (m:=seqItems? (.ref S)) (wpAny_seqItems hS rfl (wpAny_bind (wpAny_tryCatch (W.done t _ _ (e0▸st) λg tk kp=>?_))));exact wpAny_bind (m:=rule (toString "max"++toString ".default")) (wpAny_rule (wpAny_pure (h0 e0 g tk λb o b1 _ e=>kp b o b1 e)))
end
def O_(a v:Value):argsOk "max" #[[a],[(Str.ofString "default",v)]]:=by unfold argsOk;kernel_rfl
inductive Pa(K:ZX)(Q:VK)(vs:List V)(y:V)(H2:Hp):Prop|mk(a:Addr)(ns:List Int)(d:Int)(_:vs=[V.ref a])(_:y=.int d)(_:af K H2 a (ns.map V.int))(_:(ns=[]->Q (.int d) H2))(_:∀m,m∈ns->(∀z,z∈ns->z<=m)->Q (.int m) H2)
def Pb(K:ZX)(ta:TA)(td:TE):TE:=λσ H Q=>ta σ H λvs H1=>td σ H1 λy H2=>Pa K Q vs y H2
theorem Pc{ns:List Int}{d:Int}{t:Tok}{E:ZJ}(hc:X.calm=true)(I:Inv X pins σ H s)(hs:af X.K H a (ns.map V.int))(h0:ns=[]->Q (.int d) H)(h1:∀m,m∈ns->(∀z,z∈ns->z<=m)->Q (.int m) H):
  wpAny (model X.prog X.w) X.A (call (.builtin "max") [.ref a] [(Str.ofString "default",.int d t)]) (EP X pins σ Q) E s:=by
 obtain⟨its,rv,hl,_⟩:=I.list hs;have hl:=hl.isList;have hh:=I.ok.hd hc;have hi:=rv.ints;have nm:(toString "max"++toString ".loop":String)="max.loop":=by decide
 refine kmk_tree PySem.F.kind_max PySem.F.plain_max PySem.F.entry_max (O_ _ _) ?_;refine wpAny_bind (m:=Builtin.Builtins.bindParams "max" ["key","default"] 0 #[[],[(Str.ofString "default",.int d t)]]) (wpAny_of_eq (show Builtin.Builtins.bindParams "max" ["key","default"] 0 #[[],[(Str.ofString "default",.int d t)]]=pure [none,some (.int d t)]from rfl) (wpAny_bind (wpAny_pure ?_)));refine wpAny_bind (wpAny_pyIter_list hl (wpAny_bind (wpAny_newObj_type ?_)));rw[nm];have li:=hi.length;have la:a<s.heap.objs.size:=by obtain⟨_,e,_⟩:=hl;exact Heap.lt_size e
 have kp:∀b o,s.heap.get? b=some o->((s.heap.push {cls:=.type "list_iterator",data:=.fields [.ref a,.int 0 0].toArray}).push {cls:=.type "list",data:=.seq #[] 0}).get? b=some o:=λb o e=>Heap.get?_push_of_some _ (Heap.get?_push_of_some _ e);have z1:(s.heap.push {cls:=.type "list_iterator",data:=.fields [.ref a,.int 0 0].toArray}).objs.size=s.heap.objs.size+1:=Heap.size_push ..;have at_:∀(i:Nat) (v:Value),its[i]?=some v->∃u,v=.int (ns.getD i 0) u:=λi v e=>by
  have hi':=(XZ.mp e).1;obtain⟨v',e',u,r'⟩:=rv.get (show(ns.map V.int)[i]?=some (.int (ns.getD i 0)) by rw[X1,XT (show i<ns.length by lia),XU,XT (show i<ns.length by lia)];rfl);rw[e]at e';cases e';exact#[u,r']
 have keep:∀(g:Heap) (tk:Nat),(∀b o,b∉[s.heap.objs.size]->b≠(s.heap.push {cls:=.type "list_iterator",data:=.fields [.ref a,.int 0 0].toArray}).objs.size->((s.heap.push {cls:=.type "list_iterator",data:=.fields [.ref a,.int 0 0].toArray}).push {cls:=.type "list",data:=.seq #[] 0}).get? b=some o->g.get? b=some o)->Inv X pins σ H {s with heap:=g,toks:=tk}:=λg tk k=>I.kept λb o e=>k b o (by simp;exact Yj (Heap.lt_size e)) (by rw[z1];exact Yj (YT (Heap.lt_size e))) (kp b o e);refine wpAny_pure #[plainId_quiet YS _,O9 (Walks.list (A:=X.A.in1) hh s.heap.objs.size a (Yj la) its.toArray) (CmpOf.ints_gt (λi=>ns.getD i 0) λi v e=>at_ i v (by simpa using e)) (λh=>?_) #[#[_,Heap.get?_push_of_some _ (Heap.get?_push_size _ rfl),rfl,rfl],hl.at λo e=>kp a o e] (Heap.get?_push_size _ rfl) (λe0 g tk k=>?_) λhn v g tk pv k=>?_]
 .rw[z1]at h;rcases X5.mp h with z|z
  .exact Z7 _ z
  .exact absurd (Y0.mp z) (Zr (YT la))
 .exact#[.int d,H,keep g tk k,#[_,rfl],h0 (YG.mp (by simpa[li]using e0))]
 .have hz:its.toArray.size=ns.length:=by simp[li]
  rw[hz]at pv hn;have pv:its[argBest (λi j=>decide (ns.getD i 0>ns.getD j 0)) (ns.length-1)]?=some v:=by rw[<-List.getElem?_toArray];exact pv
  obtain⟨u,rfl⟩:=at_ _ v pv;obtain⟨g1,g2⟩:=argBest_gt (λi=>ns.getD i 0) (ns.length-1);refine#[.int _,H,keep g tk k,#[_,rfl],h1 _ (PySem.getD_mem (by lia)) λz hz=>?_];obtain⟨j,hj,rfl⟩:=mem_getD hz;exact g2 j (by lia)
def Pd{p:Pos}(K:ZX)(hc:X.calm=true)(hg:Gl X "max")(hm:X.mg "max"=none)(ha:PA X [ea] ta)(hd:PE X ed td)(hK:X.K=K:=by rfl)(he:starEach [ea] X.env=(false,eval ea X.env)::starEach [] X.env:=by rfl):PE X (.Call (.Name "max" p) [ea] [#[some "default",ed,kp]] pos) (Pb K ta td):=by
 subst hK;intro pins s σ H Q I h;refine wpAny_Call_Name_kw (ja I hg hm (show bootBuiltins "max"=some (.builtin "max") by decide+kernel) ?_);have hpl:(backTo pos (starEach [ea] X.env)).any (·.1)=false:=by rw[he];rfl
 have he':backTo pos (starEach [ea] X.env)=(false,eval ea X.env)::backTo pos (starEach [] X.env):=by rw[he];rfl
 refine callWith_kw (aN (ha pos pins s σ H _ I h) λus s1 ⟨xs,H1,I1,r1,q1⟩=>?_) he' hpl;show wpAny _ X.A (evalAll [do let v<-eval ed X.env;standAt pos;pure v]) _ _ s1;refine evalAll_cons (wpAny_bind (aN (hd pins s1 σ H1 _ I1 q1) λu s2 ⟨y,H2,I2,r2,a,ns,d,ex,ey,hs,h0,h1⟩=>wpAny_bind (wpAny_standAt (wpAny_pure (evalAll_nil ?_)))));subst ex;subst ey;obtain⟨u1,rfl,ru⟩:=vals1 r1;cases ru;obtain⟨t,rfl⟩:=r2;show wpAny _ X.A (call (.builtin "max") [.ref a] [(Str.ofString "default",.int d t)]) _ _ s2;exact Pc hc I2 hs h0 h1
open PySem PySem.Spec PyProof.Rows PyProof.Rows.G
section
variable{E:ZJ}{vs:List Value}{κ:KeyKind}{kd:SortKind}{W:PySem.Fin->Shared->Prop}
theorem Pe(ho:s.heap.get? a=some (seqObj "list" vs.toArray n))(ks:KeysOf κ (pairsOf vs))(lt:LtAt prog w {s with heap:=sortHeap6 s.heap a vs} κ kd)
  (kk:2<=vs.length->∀ {Q:SortKind->Shared->Prop},Q kd {s with heap:=sortHeap6 s.heap a vs}->wpAny (model prog w) A (keyKind' vs.toArray) Q E {s with heap:=sortHeap6 s.heap a vs}) (hz:vs.length<=1000)
  (fin:∀xs:Array Keyed,xs.Perm (pairsOf vs)->SortedToK κ xs xs.size->W (.done (.ret .none)) {s with heap:=sortedHeap s.heap a vs (xs.map (·.2)).reverse}):
  wpAny (model prog w) A (Builtin.«list.sort» #[[.ref a],[(Str.ofString "reverse",.bool true)]]) W E s:=by
 have big:∀ {m:Nat},m<=1000->m<=sizeLine:=λh=>X8 h (by decide);rw[list_sort_rev];have la:=Heap.lt_size ho;refine wpAny_bind (listItems_at ho rfl (wpAny_bind (listUpdate_at ho rfl ?_ (by rw[X3];exact big hz) (Yg _))));obtain⟨e1,h1⟩:∃e1,(s.heap.update a (Obj.mapSeq λ_=>(#[]:Array Value))).get? a=some (seqObj "list" #[] e1):=#[_,get?_update_seq ho λ_=>#[]]
 refine wpAny_bind (seqEpoch_at h1 rfl (wpAny_bind (wpAny_newTuple (wpAny_bind (wpAny_newList (wpAny_holding ?_) (Yg _))) (by simpa using big hz))));have h6:(sortHeap6 s.heap a vs).get? a=some (seqObj "list" #[] e1):=Heap.get?_push_of_some _ (Heap.get?_push_of_some _ h1);show wpAny (model prog w) A _ W E {s with heap:=sortHeap6 s.heap a vs};dsimp only;rw[if_pos rfl];refine wpAny_bind (wpAny_rule ?_);have pz:(pairsOf vs).reverse.size=vs.length:=by rw[aam,pairsOf_size]
 have kr:KeysOf κ (pairsOf vs).reverse:=λp hp=>ks p (by rw[aac]at hp;exact ZK.mp hp);have pm:(pairsOf vs).reverse.Perm (pairsOf vs):=aao.mpr (by rw[aac];exact List.reverse_perm _);by_cases h2:vs.toArray.size<2
 .rw[if_pos h2,if_pos h2];refine wpAny_bind (wpAny_pure ?_);rw[StateT.run_pure];refine wpAny_bind (wpAny_pure ?_);rw[X3]at h2;refine wpAny_bind (seqEpoch_at h6 rfl (wpAny_bind (listUpdate_at h6 rfl ?_ (Yg _) (by rw[if_pos rfl,aam,Array.size_map];exact aaq (X8 (aab pz) (big hz))))));simp only[bne_self_eq_false,Y_,if_false];refine wpAny_pure (fin (pairsOf vs).reverse pm λi j hij hj=>?_);have e:i=j:=by lia
  rw[e];exact KeyOrd.kle_refl _
 .rw[if_neg h2,if_neg h2];rw[X3]at h2;refine wpAny_bind (kk (by lia) ?_);refine wpAny_bind (wpAny_mono (wpS_sortRunsSt (κ:=κ) (kd:=kd) (a₀:=(pairsOf vs).reverse) (st:=SortSt.mk' kd (vs.toArray.zip vs.toArray).reverse #[] 7 none) (Q:=λ_ st=>(arrOf st).Perm (pairsOf vs).reverse/\failedOf st=none/\SortedToK κ (arrOf st) (pairsOf vs).reverse.size)
   lt kr #[Array.Perm.refl _,rfl,rfl] rfl (Stable.refl _) (by lia) λst p1 p2 p3 _=>#[p1,p2,p3]) ?_ λ_ _ e=>e)
  rintro⟨⟨⟩,st⟩ s2 ⟨rfl,p1,p2,p3⟩;have z:=p1.size_eq;dsimp only;refine wpAny_bind (seqEpoch_at h6 rfl (wpAny_bind (listUpdate_at h6 rfl ?_ (Yg _) (by rw[if_pos rfl,aam,Array.size_map,z,pz];exact aaq (big hz)))));rw[p2];simp only[bne_self_eq_false,Y_,if_false];exact wpAny_pure (fin (arrOf st) (p1.trans pm) (by rw[z];exact p3))
end
inductive fG(H:Hp)(v:V)(p:Nat×Nat):Prop|mk(t:_)(_:v=.ref t)(_:H t=some (.tup [.int (p.1:Nat),.int (p.2:Nat)]))
def vD(a c:Nat×Nat):Prop:=c.1<a.1\/(a.1=c.1/\c.2<=a.2)
def ky(p:Nat×Nat):List (Int ⊕ List Nat):=[.inl (p.1:Nat),.inl (p.2:Nat)]
theorem Pf{q:Nat×Nat}(h:PyProof.Rows.lexLt itemOrd (ky p) (ky q)=false):vD p q:=by
 obtain⟨h1,h2⟩:=lex_false.mp h;have h1:decide (((p.1:Nat):Int)<((q.1:Nat):Int))=false:=h1;have h1:=of_decide_eq_false h1;unfold vD;rcases h2 with h2|h2
 .have h2:decide (((q.1:Nat):Int)<((p.1:Nat):Int))=true:=h2;have:=Yi h2
  lia
 .obtain⟨h3,_⟩:=lex_false.mp h2;have h3:decide (((p.2:Nat):Int)<((q.2:Nat):Int))=false:=h3;have h3:=of_decide_eq_false h3
  lia
def nJ:Value->V
 |.ref t=>.ref t
 |_=>.ay
def mn:Nat->Bool:=λ_=>false
inductive Pr(h:Heap)(v:Value)(p:Nat×Nat):Prop|mk(t o x y n:_)(_:v=.ref t)(_:h.get? t=some o)(_:o.cls=.type "tuple")(_:o.data=.seq [.int (p.1:Nat) x,.int (p.2:Nat) y].toArray n)
def Pr.key(q:Pr h v p):tupKeyC h mn v=some (ky p):=by
 obtain⟨t,o,x,y,n,rfl,ho,hc,hd⟩:=q;unfold tupKeyC isTupObj tupKey;simp only[ho,hc,hd];rfl
def Pr.of(q:Pr h v p):∃f,TupOf h mn v f:=by
 obtain⟨t,o,x,y,n,rfl,ho,hc,hd⟩:=q;exact#[_,t,o,_,n,rfl,ho,hc,hd,rfl,λ_=>#[_,_,rfl],λz=>nomatch z]
theorem Fs:∀ {vs:List Value} {ps:List (Nat×Nat)},Paired (Pr h) vs ps->∃fs,TupsOf h mn vs fs
 |_,_,.nil=>#[[],.nil]
 |_,_,.cons r t=>by
  obtain⟨f,hf⟩:=r.of;obtain⟨fs,hfs⟩:=Fs t;exact#[f::fs,.cons hf hfs]
noncomputable def gp(h:Heap)(v:Value):Nat×Nat:=match tupKeyC h mn v with
 |some [.inl a,.inl b]=>(a.toNat,b.toNat)
 |_=>(0,0)
theorem Pr.gp(q:Pr h v p):gp h v=p:=by
 unfold L2.gp;rw[q.key];rfl
theorem Ft:∀ {vs:List Value} {ps:List (Nat×Nat)},Paired (Pr h) vs ps->ps=vs.map (L2.gp h)
 |_,_,.nil=>rfl
 |_,_,.cons r t=>by rw[X7,r.gp,<-Ft t]
def Pg(K:ZX)(ta:TA)(td:TE):TE:=λσ H Q=>ta σ H λvs H1=>td σ H1 λy H2=>y=.bl true/\c8 λ(a:Addr) (xs:List V) (ps:List (Nat×Nat))=>vs=[V.ref a]/\af K H2 a xs/\Paired (fG H2) xs ps/\xs.length<=1000/\
 ∀(out:List V) (qs:List (Nat×Nat)) (D:Addr),qs.Perm ps->qs.Pairwise vD->Paired (fG H2) out qs->H2 D=none->Q (.ref D) (upd H2 D (.lst out))
theorem Ph{ps:List (Nat×Nat)}{E:ZJ}(I:Inv X pins σ H s)(hs:af X.K H a xs)(pr:Paired (fG H) xs ps)(hz:xs.length<=1000)
  (q:∀(out:List V) (qs:List (Nat×Nat)) (D:Addr),qs.Perm ps->qs.Pairwise vD->Paired (fG H) out qs->H D=none->Q (.ref D) (upd H D (.lst out))):
  wpAny (model X.prog X.w) X.A (call (.builtin "sorted") [.ref a] [(Str.ofString "reverse",.bool true)]) (EP X pins σ Q) E s:=by
 obtain⟨its,rv,hl,_⟩:=I.list hs;have hl:=hl.isList;have li:=rv.length;have one:∀ {x:V} {v:Value} {p:Nat×Nat},RelV x v->fG H x p->Pr s.heap v p:=λ{x v p} r ⟨t,e,ht⟩=>by
  subst e;cases r;obtain⟨its2,r2,⟨o,ho,hc,n,hd⟩,_⟩:=I.tuple (aI.of ht);obtain⟨u1,u2,rfl⟩:=Vals.Nc r2;exact#[t,o,u1,u2,n,rfl,ho,hc,hd]
 have prs:Paired (Pr s.heap) its ps:=by
  have gen:∀ {l:List V} {m:List Value} {k:List (Nat×Nat)},Vals l m->Paired (fG H) l k->Paired (Pr s.heap) m k:=λ{l m k} r=>by
   induction r generalizing k with|nil=>intro h;cases h;exact .nil|cons r _ ih=>intro h;cases h with|cons h t=>exact .cons (one r h) (ih t)
  exact gen rv pr
 obtain⟨fs,tf⟩:=Fs prs;have ep:=Ft prs;have all:∀v∈its,fG H (nJ v) (L2.gp s.heap v)/\Pr s.heap v (L2.gp s.heap v)/\RelV (nJ v) v:=λv hv=>by
  obtain⟨i,hi,e⟩:=Y8 hv;obtain⟨v',e',r'⟩:=rv.get (XT (show i<xs.length by lia));rw[XT hi,e]at e';cases e';obtain⟨p,_,t,et,ht⟩:=Paired.getL pr (XT (show i<xs.length by lia));have k:=one r' #[t,et,ht];rw[et]at r';cases r';rw[k.gp];exact#[#[t,rfl,ht],k,rfl]
 have hk:∀v∈its,∃l,tupKeyC s.heap mn v=some l:=λv hv=>#[_,(all v hv).2.1.key]
 refine call_function_entry_kw kind_sorted plain_sorted entry_sorted (args_sorted_rev _ _) ?_;unfold Builtin.«sorted»;refine wpAny_bind (m:=checkCount "sorted" 1 1 _) (wpAny_pure (wpAny_bind (collect_list hl (wpAny_bind (wpAny_newList ?_ (X8 (show its.length<=1000 by lia) (by decide)))))));have z1:((s.heap.push (seqObj "list" #[] 0)).update s.heap.objs.size (Obj.mapSeq (·++its.toArray))).objs.size=s.heap.objs.size+1:=by rw[Heap.size_update,size_push']
 generalize eh:((s.heap.push (seqObj "list" #[] 0)).update s.heap.objs.size (Obj.mapSeq (·++its.toArray))).push (seqObj "list" its.toArray 0)=hB;have zi:hB.get? (s.heap.objs.size+1)=some (seqObj "list" its.toArray 0):=by rw[<-eh,<-z1];exact Heap.get?_push_size _ rfl
 have k0:KeepsTups s.heap hB:=by
  rw[<-eh];exact((KeepsTups.push _ _).trans (KeepsTups.update _ (Heap.get?_push_size _ rfl) not_tuple_list)).trans (KeepsTups.push _ _)
 have k6:=k0.trans (keeps_sort6 (vs:=its) zi);show wpAny _ _ _ _ _ {s with heap:=hB};dsimp only;rw[z1];refine wpAny_bind (wpAny_holding (wpAny_call_entry_kw slot_list_sort #[_,zi,rfl] entry_list_sort (Pe (κ:=tupKindC s.heap mn) (kd:=tuples' true) zi (tupKeys hk) (tupC_ltAt (s:={s with heap:=sortHeap6 hB (s.heap.objs.size+1) its}) true k6) (λh2 _ hq=>tup_kind (s:={s with heap:=sortHeap6 hB (s.heap.objs.size+1) its}) (by rw[TupsOf.length tf];lia) (TupsOf.keep k6 tf) hq) (by lia) λys p1 p2=>#[_,rfl,wpAny_pure #[_,rfl,?_]]) (args_list_sort_rev _ _)));have pt:ys.toList.Perm (its.zip its):=by have:=aao.mp p1;rwa[pairsOf_toList]at this
 have hm:∀p∈ys.toList,p.1=p.2/\p.1∈its:=λp hp=>mem_zip_self (pt.mem_iff.mp hp);have pm:(ys.toList.map (·.2)).Perm its:=by
  have e:(its.zip its).map (·.2)=its:=by rw[List.map_snd_zip];simp
  have:=pt.map (·.2);rwa[e]at this
 have lo:((ys.map (·.2)).reverse).toList=(ys.toList.map (·.2)).reverse:=by rw[aac,Array.toList_map]
 have hin:∀v∈(ys.toList.map (·.2)).reverse,v∈its:=λv hv=>pm.mem_iff.mp (ZK.mp hv);obtain⟨e0,he⟩:=sortedAll_at s.heap its (ys.map (·.2)).reverse;have vals:∀l:List Value,(∀v∈l,v∈its)->Vals (l.map nJ) l/\Paired (fG H) (l.map nJ) (l.map (L2.gp s.heap)):=λl=>by
  induction l with|nil=>intro _;exact#[.nil,.nil]|cons v l ih=>
   intro h;obtain⟨a1,a2,a3⟩:=all v (h v (by simp));obtain⟨b1,b2⟩:=ih λu hu=>h u (by simp[hu]);exact#[.cons a3 b1,.cons a1 b2]
 obtain⟨v1,v2⟩:=vals _ hin;have hlen:((ys.toList.map (·.2)).reverse.map nJ).length<=sizeLine:=by
  rw[XX,Yz,pm.length_eq];exact X8 (show its.length<=1000 by lia) (by decide)
 have I2:=I.laid (t':=s.toks) (h':=sortedAll s.heap its (ys.map (·.2)).reverse) (a:=s.heap.objs.size+1) (o:=.lst ((ys.toList.map (·.2)).reverse.map nJ)) (λ_ _=>sortedAll_old) (aaG _) #[hlen,_,e0,v1,by rw[<-lo];exact he];have fin:=q ((ys.toList.map (·.2)).reverse.map nJ) ((ys.toList.map (·.2)).reverse.map (L2.gp s.heap)) (s.heap.objs.size+1) (by rw[ep];exact((List.reverse_perm _).trans pm).map _) ?_ v2 (I.aJ.fresh (aaG _))
 .subst eh;exact#[.ref _,_,I2,rfl,fin]
 .rw[aap,List.pairwise_reverse,aap,aas];intro i j hi hj hij;have k:=p2 i j (ZT hij) (by rw[<-Zk];exact hj);have kk:∀(m:Nat) (hm':m<ys.toList.length),KK (tupKindC s.heap mn) ys m=ky (L2.gp s.heap (ys.toList[m]).2):=λm hm'=>by
   obtain⟨m1,m2⟩:=hm _ (Ys hm');unfold KK;rw[<-ZD,XT hm'];show((tupKeyC s.heap mn (ys.toList[m]).1).getD [])=_;rw[(all _ m2).2.1.key,m1];rfl
  rw[kk i hi,kk j hj]at k;exact Pf k
def Pj{p:Pos}(K:ZX)(hg:Gl X "sorted")(hm:X.mg "sorted"=none)(ha:PA X [ea] ta)(hd:PE X ed td)(hK:X.K=K:=by rfl)(he:starEach [ea] X.env=(false,eval ea X.env)::starEach [] X.env:=by rfl):
  PE X (.Call (.Name "sorted" p) [ea] [#[some "reverse",ed,kp]] pos) (Pg K ta td):=by
 subst hK;intro pins s σ H Q I h;refine wpAny_Call_Name_kw (ja I hg hm (show bootBuiltins "sorted"=some (.builtin "sorted") by decide+kernel) ?_);have hpl:(backTo pos (starEach [ea] X.env)).any (·.1)=false:=by rw[he];rfl
 have he':backTo pos (starEach [ea] X.env)=(false,eval ea X.env)::backTo pos (starEach [] X.env):=by rw[he];rfl
 refine callWith_kw (aN (ha pos pins s σ H _ I h) λus s1 ⟨xs,H1,I1,r1,q1⟩=>?_) he' hpl;show wpAny _ X.A (evalAll [do let v<-eval ed X.env;standAt pos;pure v]) _ _ s1;refine evalAll_cons (wpAny_bind (aN (hd pins s1 σ H1 _ I1 q1) λu s2 ⟨y,H2,I2,r2,ey,a,zs,ps,ex,hs,pr,hz,q⟩=>wpAny_bind (wpAny_standAt (wpAny_pure (evalAll_nil ?_)))));subst ex;subst ey;obtain⟨u1,rfl,ru⟩:=vals1 r1;cases ru;cases r2;show wpAny _ X.A (call (.builtin "sorted") [.ref a] [(Str.ofString "reverse",.bool true)]) _ _ s2;exact Ph I2 hs pr hz q
end L2
namespace PySem
open Sem (wp)
open AutoSeq1 (wpAny_loadPart')
section
variable{prog:Program}{w:World}{A:Around}{E:ZJ}{s:Shared}
def Pk{T nI iI:String}{Bn Bi:Builtin}{as:List Value}{kw:List (Str×Value)}{S:Spec}{Q Q1:ZJ}(ft:TypeCalled T nI iI)(ct:checkTypeCall T #[as,kw]=pure ())(cn:checkBuiltinCall nI #[.type T::as,kw]=pure ())
  (eN:entryFor table nI=some Bn) (eI:entryFor table iI=some Bi) (g:Meets (Bn #[.type T::as,kw]) S) (h:S A.in1 (wants Q1 E) s)
  (nx:∀obj s1,Q1 obj s1->s1.TypeIs obj T/\argsOk iI #[obj::as,kw]/\∃Si,Meets (Bi #[obj::as,kw]) Si/\Si A.in1 (wants (λr s2=>r=.none/\Q obj s2) E) s1):wpAny (model prog w) A (call (.type T) as kw) Q E s:=by
 obtain⟨c,tl,mr⟩:=ft.mro;have f1:=ft.made;have f2:=ft.sub;refine wpAny_call (codeAny_of_tree ?_);refine wpAny_pure (a:=_) #[Code.quiet_builtin _ (by decide+kernel),codeAny_builtin F.entry_type_call ?_];rw[Around.under_plain (weight_type_call_type T as kw) (units_type_call_type T as kw)];have f3:=ft.notType;have f4:=ft.canCreate
 repeat (any_goals (first|assumption|wp_step))
 refine codeAny_mono (codeAny_call_builtin ft.plain eN (wpAny_of_eq cn (g prog w A.in1 _ s h))) λr s1 hr=>?_;cases r with|error e=>exact hr|ok fl=>
  cases fl with
  |ret obj=>
   obtain⟨ty,ao,Si,gi,si⟩:=nx _ _ hr;have i1:=ft.init.lookup;have i2:=ft.init.bind obj
   repeat (any_goals (first|assumption|wp_step))
   refine codeAny_mono (codeAny_call_builtin ft.init.plain eI (ft.init.check _ _ _ _ _ _ _ _ ty ao (gi prog w A.in1 _ s1 si))) λr2 s2 hr2=>?_;cases r2 with|error e=>exact hr2|ok Pl=>
    cases Pl with
    |ret r=>
     obtain⟨rfl,hq⟩:=hr2
     repeat (any_goals (first|assumption|wp_step))
    |_=>exact hr2.elim
  |_=>exact hr.elim
def Pn{T nI:String}{x a:Value}{kw:List (Str×Value)}(hl:typeLookup (.type T) "__init__"=pure (some (.builtin "object.__init__")))(hm:Bind.madeBy (.type T)=pure (some nI))(ne:(some nI != some "object.__new__")=true):
  Meets (Builtin.«object.__init__» #[[x,a],kw]) (λ_ R s=>s.TypeIs x T/\R (.ok (.ret .none)) s):=by
 refine Meets.of_wp λprog w A R s hs=>?_;obtain⟨ty,hq⟩:=hs
 repeat (any_goals (first|assumption|wp_step))
 exact#[_,rfl,hq]
set_option tactic.hygienic true in
def Po(a:Addr)(its:Array Value)(n:Nat)(dc:Option Addr)(sl:Array (Option Value))(t:Tok):
  Meets (Builtin.«enumerate.__new__» #[[.type "enumerate",.ref a],[("start",.int 1 t)]]) (λ_ R s=>s.heap.get? a=some {cls:=.type "list",dict:=dc,data:=.seq its n,slots:=sl}/\
   R (.ok (.ret (.ref (s.heap.push {cls:=.type "list_iterator",data:=.fields [.ref a,.int 0 0].toArray}).objs.size)))
    {s with heap:=(s.heap.push {cls:=.type "list_iterator",data:=.fields [.ref a,.int 0 0].toArray}).push {cls:=.type "enumerate",data:=.fields [.none,.bool false,.ref s.heap.objs.size,rawInt 1,.none,.none].toArray}}):=
 .of_wp λprog w A R s h=>by
  obtain⟨hp,gs,dr,tk,os⟩:=s;obtain⟨q1,h⟩:=h;have sb:=sub_enumerate;have q2:Heap.IsList (Shared.heap #[hp,gs,dr,tk,os]) a its:=#[_,q1,rfl,n,rfl]
  wp_walk using wpAny_loadPart' q1
  refine wpAny_stack_any λzz=>wpAny_pure ?_;split
  .rename_i cc _ _ _ _ _;cases(cc==Value.type "enumerate")<;>(wp_walk using wpAny_loadPart' q1,wpAny_pyIter_list q2)<;>exact#[_,rfl,h]
  .wp_walk using wpAny_loadPart' q1,wpAny_pyIter_list q2
   exact#[_,rfl,h]
def Pp(a v:Value):checkTypeCall "enumerate" #[[a],[("start",v)]]=pure ():=by kernel_rfl
def Pq(a v:Value):checkBuiltinCall "enumerate.__new__" #[[.type "enumerate",a],[("start",v)]]=pure ():=by kernel_rfl
def Pu(x a v:Value):argsOk "object.__init__" #[[x,a],[("start",v)]]:=by unfold argsOk;kernel_rfl
def Pw{a:Addr}{its:Array Value}{t:Tok}{Q:ZJ}(hL:s.heap.IsList a its)
  (h:∀g,IsEnum g (s.heap.objs.size+1) s.heap.objs.size 1 .none->g.IsListIter s.heap.objs.size a 0->(∀b o,s.heap.get? b=some o->g.get? b=some o)->Q (.ref (s.heap.objs.size+1)) {s with heap:=g}):
  wpAny (model prog w) A (call (.type "enumerate") [.ref a] [("start",.int 1 t)]) Q E s:=by
 obtain⟨⟨c,dc,dt,sl⟩,hl,hc,n,hd⟩:=hL;have hc:c=.type "list":=hc;have hd:dt=.seq its n:=hd;subst hc hd;have z:(s.heap.push {cls:=.type "list_iterator",data:=.fields [.ref a,.int 0 0].toArray}).objs.size=s.heap.objs.size+1:=Heap.size_push ..;refine Pk (Q1:=λobj s1=>s1.TypeIs obj "enumerate"/\Q obj s1) F.called_enumerate (Pp _ _) (Pq _ _) F.entry_enumerate_new F.entry_object_init (Po a its n dc sl t) #[hl,?_] λobj s1 q=>#[q.1,Pu _ _ _,_,Pn F.called_enumerate.init.lookup F.called_enumerate.made (by decide),q.1,rfl,q.2]
 show _/\_;rw[z];have he:IsEnum ((s.heap.push {cls:=.type "list_iterator",data:=.fields [.ref a,.int 0 0].toArray}).push {cls:=.type "enumerate",data:=.fields [.none,.bool false,.ref s.heap.objs.size,rawInt 1,.none,.none].toArray}) (s.heap.objs.size+1) s.heap.objs.size 1 .none:=by
  have:=Heap.get?_push_size (s.heap.push {cls:=.type "list_iterator",data:=.fields [.ref a,.int 0 0].toArray}) (o:={cls:=.type "enumerate",data:=.fields [.none,.bool false,.ref s.heap.objs.size,rawInt 1,.none,.none].toArray}) rfl;rwa[z]at this
 exact#[#[_,he,rfl],h _ he #[_,Heap.get?_push_of_some _ (Heap.get?_push_size _ rfl),rfl,rfl] λb o x=>Heap.get?_push_of_some _ (Heap.get?_push_of_some _ x)]
theorem Fu{prog:Program}{w:World}{A:Around}(hh:A.handled=none)(it a:Addr)(ne:a≠it)(its:Array Value):
  Draws prog w A it [it,a] (its.size+1) (λi v=>its[i-1]?=some v) (λi h=>1<=i/\h.IsListIter it a (i-1)/\h.IsList a its) where
 live:=λ_ _ st=>let⟨o,ho,_⟩:=st.2.1;#[o,ho]
 frame:=λ_ _ _ st k=>#[st.1,st.2.1.at λo e=>k it (by simp) o e,st.2.2.at λo e=>k a (by simp) o e]
 item:=λi s Q E hi st q=>by
  obtain⟨h1,h2,h3⟩:=st;refine wpAny_nextOf_list_item h2 h3 (x:=its[i-1]'(by lia)) (by simp) λg g1 g2=>q _ g s.toks (by simp) #[by lia,?_,h3.extBut g2.extBut ne] g2;rw[show i+1-1=i-1+1 by lia];exact g1
 done:=λs Q E st q=>wpAny_nextOf_list_end hh st.2.1 st.2.2 (by simp) q
end
end PySem
set_option maxHeartbeats 400000
namespace L2
open PySem PySem.Spec PyProof.Rows
def zl(K:ZX)(a:Addr):It:=
 #[λi H=>aX λ(xs:List V) (x:V)=>af K H a xs/\xs[i]?=some x,λi H v H'=>aX λT x=>v=.ref T/\H T=none/\H'=upd H T (.tup [.int ((i+1:Nat):Int),x])/\∀xs,af K H a xs->xs[i]?=some x,λi H=>∃xs:List V,af K H a xs/\xs.length=i]
theorem Px{P:Program}{w:World}{K:ZX}{elts:List Expr}{kk:Nat}{tpos:Pos}(a e it:Addr)(ea:e≠a)(ia:a≠it):
  Turn P w K (.Tuple elts kk tpos) (zl K a) [e,it] e (λi h=>(∃old,IsEnum h e it ((i+1:Nat):Int) old)/\h.IsListIter it a i/\e≠it) where
 mem:=by simp
 obj:=λi h st b hb=>by
  obtain⟨⟨old,he⟩,⟨o,ho,hc,hd⟩,_⟩:=st;have e':b=e\/b=it:=by simpa using hb
  rcases e' with z|z
  .rw[z];exact#[_,he,λv q=>nomatch q]
  .rw[z];exact#[o,ho,λv q=>by rw[hd]at q;cases q]
 keep:=λi h h' st k=>let⟨⟨old,he⟩,hi,hne⟩:=st;#[#[old,k e (by simp) _ he],hi.at λo q=>k it (by simp) o q,hne]
 item:=by
  intro X hP hw hK hc i pins s σ H E I hf st hg;subst hP hw hK;obtain⟨⟨old,he⟩,hit,hne⟩:=st;obtain⟨xs,x,hq,hx⟩:=hg;obtain⟨its,rv,p,hz⟩:=I.list hq;have lr:=rv.length;have Xj:=(XZ.mp hx).1;have hel:e<s.heap.objs.size:=Heap.lt_size he;have hil:it<s.heap.objs.size:=by obtain⟨_,q,_⟩:=hit;exact Heap.lt_size q
  refine wpAny_pyNext_enum_itemD (Fu (A:=X.A.in1) (I.ok.hd hc) it a ia its.toArray) he #[by lia,hit,p.isList] (by simp;lia) hne (by simp;exact#[hne,ea]) λu h' tk hu ho hst' hT hsz hk=>?_;have hu:its[i]?=some u:=by simpa using hu
  have ru:RelV x u:=by
   obtain⟨u',hu',Py⟩:=rv.get hx;rw[hu]at hu';cases hu';exact Py
  refine#[_,rfl,wpAny_letOwnedTupleGo_enum (s:={s with heap:=h',toks:=tk+1}) ho λh'' he' sb=>?_];have hT2:h''.get? s.heap.objs.size=some {cls:=.type "tuple",data:=.seq [.int ((i+1:Nat):Int) tk,u].toArray}:=(sb.2 _ (Zr hel)).trans hT;have new:cu X.prog X.w (upd H s.heap.objs.size (.tup [.int ((i+1:Nat):Int),x])) h'' s.heap.objs.size (.tup [.int ((i+1:Nat):Int),x]):=
   #[by show 2<=sizeLine;decide,[.int ((i+1:Nat):Int) tk,u],.cons #[_,rfl] (.cons ru .nil),#[_,hT2,rfl,_,rfl]]
  have I1:Inv X pins σ (upd H s.heap.objs.size (.tup [.int ((i+1:Nat):Int),x])) {s with heap:=h'',toks:=tk+1}:=
   I.yX (ch:=[e,it]) (λb ob hb q=>(sb.2 b (λz=>hb (by simp[z]))).trans (hk b ob (λz=>hb (by simp[z])) (λz=>hb (by simp[z])) q)) hf (X0 _) new
  have hit2:h'.IsListIter it a (i+1):=by have:=hst'.2.1;rwa[show i+1+1-1=i+1 by lia]at this
  refine#[.ref s.heap.objs.size,_,I1,rfl,#[_,x,rfl,I.aJ.fresh (X0 _),rfl,λys hy=>by rw[I.o5 hy hq];exact hx],#[#[u,?_],hit2.at λo q=>(sb.2 it (Ne.symm hne)).trans q,hne],λb hb=>?_]
  .have e1:((i+1+1:Nat):Int)=((i+1:Nat):Int)+1:=by lia
   rw[e1];exact he'
  .have hb':b<s.heap.objs.size:=by
    have e':b=e\/b=it:=by simpa using hb
    rcases e' with z|z
    .rw[z];exact hel
    .rw[z];exact hil
   rw[ae (Yj hb')];exact(hf b hb).1
 done:=by
  intro X hP hw hK hc i pins s σ H E I hf st hg;subst hP hw hK;obtain⟨⟨old,he⟩,hit,hne⟩:=st;obtain⟨xs,hq,hx⟩:=hg;obtain⟨its,rv,p,hz⟩:=I.list hq;obtain⟨f0,f1,f2,f3,f4,f5⟩:=hf it (by simp);have hl:=rv.length;have hz2:its.toArray.size=i:=by simp;lia
  exact wpAny_pyNext_enum_endD (Fu (A:=X.A.in1) (I.ok.hd hc) it a ia its.toArray) he #[by lia,by rw[hz2];exact hit,p.isList] λh' eb=>#[rfl,I.turned (t':=s.toks) (λb o hb q=>eb b o hb q) f0 f1 f3 f4 f5]
 self:=λA i s Q E st h=>by
  obtain⟨⟨old,he⟩,_⟩:=st;exact wpAny_pyIter_enum he h
def Pz(K:ZX)(ta:TA)(td:TE):TI:=λσ H R=>ta σ H λvs H1=>td σ H1 λy H2=>y=.int 1/\aX λa xs=>vs=[.ref a]/\af K H2 a xs/\R (zl K a) H2
end L2
set_option maxHeartbeats 400000
namespace L2
open PySem PySem.Spec PyProof.Rows
variable{pos:Pos}{e:Expr}
def PB{M:Model}{A:Around}{E:ZJ}{s:Shared}{env:Env}{T:String}{kws:List Keyword}{Q:ZJ}
  (h:wpAny M A (spliced (backTo pos (starEach [e] env))) (λvs s1=>wpAny M A (evalAll ((backToKw pos (keywordEach kws env)).map (·.2))) (λkvs s2=>wpAny M A (call (.type T) vs (((backToKw pos (keywordEach kws env)).filterMap (·.1)).zip kvs)) Q E s2) E s1) E s)
  (he:backTo pos (starEach [e] env)=(false,eval e env)::backTo pos (starEach [] env)) (h1:(backTo pos (starEach [e] env)).any (·.1)=false) (h2:(backToKw pos (keywordEach kws env)).all (·.1.isSome)=true:=by rfl) (h3:(backToKw pos (keywordEach kws env)).any (·.1.isNone)=false:=by rfl):
  wpAny M A (callWith pos (.type T) [] (backTo pos (starEach [e] env)) (backToKw pos (keywordEach kws env))) Q E s:=by
 have k:wpAny M A (evalArgs (.type T) true (backTo pos (starEach [e] env)) (backToKw pos (keywordEach kws env))) (λa s1=>wpAny M A (call (.type T) a.pos a.kw) Q E s1) E s:=by
  rw[he]at h ⊢;exact evalArgs_kwB h2 h
 unfold callWith;refine wpAny_bind (wpAny_holding (wpAny_mono k (λa s1 q=>wpAny_bind (wpAny_standAt ?_)) λ_ _ z=>z));simp only[h1,h3,Bool.or_false];refine wpAny_bind (wpAny_pure (wpAny_bind (wpAny_mono q (λr s2 hr=>?_) λ_ _ z=>z)));exact wpAny_bind (wpAny_holding (wpAny_point (wpAny_pure hr)))
def PD{X:Cx}{ed:Expr}{ta:TA}{td:TE}{p tpos kp:Pos}{elts:List Expr}{kk:Nat}(hg:Gl X "enumerate")(hm:X.mg "enumerate"=none)(ha:PA X [e] ta)(hd:PE X ed td)(hs:starEach [e] X.env=(false,eval e X.env)::starEach [] X.env:=by rfl):
  PI X (.Tuple elts kk tpos) (.Call (.Name "enumerate" p) [e] [#[some "start",ed,kp]] pos) (Pz X.K ta td):=by
 intro pins s σ H R I h;refine wpAny_Call_Name_kw (ja I hg hm boot_enumerate ?_);have hpl:(backTo pos (starEach [e] X.env)).any (·.1)=false:=by rw[hs];rfl
 have he':backTo pos (starEach [e] X.env)=(false,eval e X.env)::backTo pos (starEach [] X.env):=by rw[hs];rfl
 refine PB (aN (ha pos pins s σ H _ I h) λus s1 ⟨vs,H1,I1,r1,q1⟩=>?_) he' hpl;show wpAny _ X.A (evalAll [do let v<-eval ed X.env;standAt pos;pure v]) _ _ s1;refine evalAll_cons (wpAny_bind (aN (hd pins s1 σ H1 _ I1 q1) λu s2 ⟨y,H2,I2,r2,ey,a,xs,ex,hq,q⟩=>wpAny_bind (wpAny_standAt (wpAny_pure (evalAll_nil ?_)))));subst ex;subst ey;obtain⟨u1,rfl,ru⟩:=vals1 r1;cases ru;obtain⟨t,rfl⟩:=r2;obtain⟨its,rv,p',hz⟩:=I2.list hq;have la:a<s2.heap.objs.size:=p'.lt;show wpAny _ X.A (call (.type "enumerate") [.ref a] [("start",.int 1 t)]) _ _ s2;refine Pw p'.isList λh' he hit hk=>wpAny_pyIter_enum he ?_;have I3:Inv X pins σ H2 {s2 with heap:=h'}:=I2.kept (t':=s2.toks) hk;refine#[s2.heap.objs.size+1,[s2.heap.objs.size+1,s2.heap.objs.size],_,_,H2,rfl,I3,Px a (s2.heap.objs.size+1) s2.heap.objs.size (Zr (YT la)) (Yj la),#[#[.none,he],hit,Z7 _],λb hb=>?_,q];have e':b=s2.heap.objs.size+1\/b=s2.heap.objs.size:=by simpa using hb
 have hle:s2.heap.objs.size<=b:=by
  rcases e' with z|z
  .rw[z];exact Zs _ _
  .rw[z];exact X0 _
 exact I2.iH hle (I2.aJ.fresh hle)
end L2
namespace Qm
open Kyq1
variable{h i j n v w:Nat}{a b c r:Rows}{f:Nat->Nat->Patch}
abbrev Rows:=List (List Patch)
def width(r:Rows):Nat:=(r.headD []).length
def aq(r:Rows):Block:=#[r.length,width r,r.flatten]
structure Rect(h w:Nat)(r:Rows):Prop where
 len:r.length=h
 row:∀x∈r,x.length=w
structure Good(r:Rows):Prop where
 row:∀x∈r,x.length=width r
 h1:1<=r.length
 h6:r.length<=6
 w1:1<=width r
 w6:width r<=6
theorem Rect.width(R:Rect h w r)(hh:1<=h):width r=w:=by
 cases r with|nil=>have:=R.len;simp at this;lia|cons x t=>exact R.row x (by simp)
def Rect.good(R:Rect h w r)(h1:1<=h)(h6:h<=6)(w1:1<=w)(w6:w<=6):Good r:=by
 have e:=R.width h1;refine#[λx hx=>?_,?_,?_,?_,?_]
 .rw[e];exact R.row x hx
 .rw[R.len];exact h1
 .rw[R.len];exact h6
 .rw[e];exact w1
 .rw[e];exact w6
def Good.rX(g:Good r):Rect r.length (width r) r:=#[rfl,g.row]
def at2(r:Rows)(i j:Nat):Patch:=(r.getD i []).getD j bare
theorem Fv:∀(r:Rows),(∀x∈r,x.length=w)->∀(i j:Nat),j<w->r.flatten.getD (i*w+j) bare=at2 r i j
 |[],_,i,j,_=>by simp[at2]
 |x::t,h,0,j,hj=>by
  have hx:x.length=w:=h x (by simp);simp only[at2,Yt,Nat.zero_mul,Zh];rw[XU,Zd (by lia)];simp[XU]
 |x::t,h,i+1,j,hj=>by
  have hx:x.length=w:=h x (by simp);have ih:=Fv t (λy hy=>h y (by simp[hy])) i j hj;have e:(i+1)*w+j=w+(i*w+j):=by rw[YY];lia
  rw[e,Yt,XU,YH (by lia),hx,show w+(i*w+j)-w=i*w+j by lia,<-XU,ih];simp[at2]
def hJ(g:Good r)(hj:j<width r):cell (aq r) i j=at2 r i j:=Fv r g.row i j hj
def mk(h w:Nat)(f:Nat->Nat->Patch):Rows:=(List.range h).map λi=>(List.range w).map (f i)
def rY(h w:Nat)(f:Nat->Nat->Patch):Rect h w (mk h w f):=by
 refine#[by simp[mk],λx hx=>?_];simp only[mk,Yp,Yb]at hx;obtain⟨i,_,rfl⟩:=hx;simp
def vE(hh:1<=h)(f:Nat->Nat->Patch):made h w f=aq (mk h w f):=by
 unfold made aq;rw[(rY h w f).len,(rY h w f).width hh];simp[mk,List.flatMap]
theorem Fw(R:Rect h w r)(hi:i<r.length)(hj:j<w):∃hj':j<r[i].length,at2 r i j=r[i][j]:=by
 have e:r[i].length=w:=R.row _ (Ys hi);refine#[by lia,?_];simp[at2,XU,XT hi,XT (show j<r[i].length by lia)]
theorem Fx{s:Rows}(R:Rect h w r)(S:Rect h w s)(e:∀i j,i<h->j<w->at2 r i j=at2 s i j):r=s:=by
 apply YQ
 .rw[R.len,S.len]
 .intro i h1 h2;have r1:r[i].length=w:=R.row _ (Ys h1);have s1:s[i].length=w:=S.row _ (Ys h2);apply YQ
  .rw[r1,s1]
  .intro j h3 h4;obtain⟨_,a⟩:=Fw R h1 (show j<w by lia);obtain⟨_,b⟩:=Fw S h2 (show j<w by lia);rw[<-a,<-b];exact e i j (by have:=R.len;lia) (by lia)
def zm(hi:i<h)(hj:j<w):at2 (mk h w f) i j=f i j:=by
 simp[at2,mk,XU,hi,hj]
def eq_mk(R:Rect h w r):r=mk h w (at2 r):=Fx R (rY h w _) λi j hi hj=>(zm hi hj).symm
def mk_congr{g:Nat->Nat->Patch}(e:∀i j,i<h->j<w->f i j=g i j):mk h w f=mk h w g:=
 Fx (rY h w f) (rY h w g) λi j hi hj=>by rw[zm hi hj,zm hi hj,e i j hi hj]
def dS(r:Rows):Rows:=(List.range (width r)).map λc=>r.reverse.map λrow=>patchTurned (row.getD c bare)
def dU(r:Rows):Rows:=r.map λrow=>row.reverse.map patchMirrored
def Fy:Rect (width r) r.length (dS r):=by
 refine#[by simp[dS],λx hx=>?_];simp only[dS,Yp,Yb]at hx;obtain⟨c,_,rfl⟩:=hx;simp
def FA(g:Good r):Rect r.length (width r) (dU r):=by
 refine#[by simp[dU],λx hx=>?_];simp only[dU,Yp]at hx;obtain⟨y,hy,rfl⟩:=hx;simp[g.row y hy]
def zo(g:Good r):Good (dS r):=Fy.good g.w1 g.w6 g.h1 g.h6
def vF(g:Good r):Good (dU r):=(FA g).good g.h1 g.h6 g.w1 g.w6
theorem PF(hi:i<width r)(hj:j<r.length):at2 (dS r) i j=patchTurned (at2 r (r.length-1-j) i):=by
 have e:r.length-1-j<r.length:=by lia
 simp[at2,dS,XU,hi,hj,XT e]
theorem PH(g:Good r)(hi:i<r.length)(hj:j<width r):at2 (dU r) i j=patchMirrored (at2 r i (width r-1-j)):=by
 have e:r[i].length=width r:=g.row _ (Ys hi);have e2:width r-1-j<r[i].length:=by lia
 have e3:j<r[i].length:=by lia
 simp[at2,dU,XU,hi,e,hj,XT e2]
def FC(g:Good r):turned (aq r)=aq (dS r):=by
 show made (width r) r.length _=_;rw[vE g.w1]
 congr 1
 rw[eq_mk (Fy (r:=r))];apply mk_congr;intro i j hi hj;rw[PF hi hj];show patchTurned (cell (aq r) (r.length-1-j) i)=_;rw[hJ g hi]
theorem FD(g:Good r):mirrored (aq r)=aq (dU r):=by
 show made r.length (width r) _=_;rw[vE g.h1]
 congr 1
 rw[eq_mk (FA g)];apply mk_congr;intro i j hi hj;rw[PH g hi hj];show patchMirrored (cell (aq r) i (width r-1-j))=_;have:=g.w1;rw[hJ g (by lia)]
def fc(a b:Rows):Option Rows:=if a.length=b.length/\width a+width b<=6 then some (List.zipWith (·++·) a b)else none
def ff(a b:Rows):Option Rows:=if width a=width b/\a.length+b.length<=6 then some (a++b)else none
theorem FE(A:Rect h v a)(B:Rect h w b):Rect h (v+w) (List.zipWith (·++·) a b):=by
 refine#[by simp[A.len,B.len],λx hx=>?_];obtain⟨i,hi,rfl⟩:=Y8 hx;have h1:i<a.length:=by simp at hi;lia
 have h2:i<b.length:=by simp at hi;lia
 simp[A.row _ (Ys h1),B.row _ (Ys h2)]
theorem PJ(A:Rect h v a)(B:Rect h w b)(hi:i<h):at2 (List.zipWith (·++·) a b) i j=if j<v then at2 a i j else at2 b i (j-v):=by
 have h1:i<a.length:=by have:=A.len;lia
 have h2:i<b.length:=by have:=B.len;lia
 have e1:a[i].length=v:=A.row _ (Ys h1);simp only[at2,XU,List.getElem?_zipWith,XT h1,XT h2,aaz];rw[List.getElem?_append,e1];split<;>rfl
theorem FF(A:Good a)(B:Good b):beside (aq a) (aq b)=(fc a b).map aq:=by
 unfold beside fc;show(if a.length=b.length/\width a+width b<=6 then _ else _)=_;split
 .rename_i h;have RA:Rect a.length (width a) a:=A.rX;have RB:Rect a.length (width b) b:=#[h.1.symm,B.row]
  show some (made a.length (width a+width b) _)=some (aq _);rw[vE A.h1,eq_mk (FE RA RB)]
  congr 2
  apply mk_congr;intro i j hi hj;rw[PJ RA RB hi];show(if j<width a then cell (aq a) i j else cell (aq b) i (j-width a))=_;split
  .rename_i q;rw[hJ A q]
  .rw[hJ B (by lia)]
 .rfl
theorem FG(A:Good a)(B:Good b)(h:fc a b=some c):Good c/\c.length=a.length/\width c=width a+width b:=by
 unfold fc at h;split at h
 .rename_i q;cases h;have R:=FE (h:=a.length) A.rX #[q.1.symm,B.row];exact#[R.good A.h1 A.h6 (by have:=A.w1;lia) q.2,R.len,R.width A.h1]
 .cases h
def zq{k:Nat}(A:Rect h w a)(B:Rect k w b):Rect (h+k) w (a++b):=by
 refine#[by simp[A.len,B.len],λx hx=>?_];rcases Yr.mp hx with q|q
 .exact A.row x q
 .exact B.row x q
def PK:at2 (a++b) i j=if i<a.length then at2 a i j else at2 b (i-a.length) j:=by
 simp only[at2,XU];rw[List.getElem?_append];split<;>rfl
theorem FH(A:Good a)(B:Good b):above (aq a) (aq b)=(ff a b).map aq:=by
 unfold above ff;show(if width a=width b/\a.length+b.length<=6 then _ else _)=_;split
 .rename_i h;have RB:Rect b.length (width a) b:=#[rfl,by rw[h.1];exact B.row]
  show some (made (a.length+b.length) (width a) _)=some (aq _);rw[vE (by have:=A.h1;lia),eq_mk (zq A.rX RB)]
  congr 2
  apply mk_congr;intro i j hi hj;rw[PK];show(if i<a.length then cell (aq a) i j else cell (aq b) (i-a.length) j)=_;split
  .rw[hJ A hj]
  .rw[hJ B (by lia)]
 .rfl
theorem FI(A:Good a)(B:Good b)(h:ff a b=some c):Good c/\c.length=a.length+b.length/\width c=width a:=by
 unfold ff at h;split at h
 .rename_i q;cases h;have R:=zq A.rX (#[rfl,by rw[q.1];exact B.row]:Rect b.length (width a) b);have h1:1<=a.length+b.length:=by have:=A.h1;lia
  exact#[R.good h1 q.2 A.w1 A.w6,R.len,R.width h1]
 .cases h
def rep{α:Type}(n:Nat)(l:List α):List α:=(List.replicate n l).flatten
def zr{α:Type}(n:Nat)(l:List α):rep (n+1) l=rep n l++l:=by
 unfold rep;rw[List.replicate_succ',ZO];simp
def FJ{α:Type}(l:List α):rep 1 l=l:=by simp[rep]
def PL{α:Type}(n:Nat)(l:List α):(rep n l).length=n*l.length:=by simp[rep]
def fI(r:Rows)(n:Nat):Option Rows:=if width r*n<=6 then some (r.map (rep n))else none
def fJ(r:Rows)(n:Nat):Option Rows:=if r.length*n<=6 then some (rep n r)else none
def FK(g:Good r)(n:Nat):Rect r.length (n*width r) (r.map (rep n)):=by
 refine#[by simp,λx hx=>?_];obtain⟨y,hy,rfl⟩:=Yp.mp hx;rw[PL,g.row y hy]
def PM(n:Nat):List.zipWith (·++·) (r.map (rep n)) r=r.map (rep (n+1)):=by
 induction r with|nil=>rfl|cons x t ih=>simp only[X7,List.zipWith_cons_cons,ih,zr]
def FL(g:Good r)(hn:1<=n)(h:n*width r<=6):Good (r.map (rep n)):=
 (FK g n).good g.h1 g.h6 (aaH hn g.w1) h
theorem FN(g:Good r):∀n,across (n+1) (aq r)=(fI r (n+1)).map aq
 |0=>by
  show some (aq r)=_;have e:r.map (rep 1)=r:=by
   rw[show(rep 1:List Patch->List Patch)=id from funext FJ,List.map_id]
  unfold fI;rw[if_pos (by have:=g.w6;lia),Zh,e];rfl
 |n+1=>by
  show(across (n+1) (aq r)).bind (λy=>beside y (aq r))=_;rw[FN g n];unfold fI;by_cases h:width r*(n+1)<=6
  .have h':(n+1)*width r<=6:=by rw[ZE];exact h
   have G:=FL g (show 1<=n+1 by lia) h';have wG:width (r.map (rep (n+1)))=(n+1)*width r:=(FK g (n+1)).width g.h1;rw[if_pos h];show beside (aq (r.map (rep (n+1)))) (aq r)=_;rw[FF G g];unfold fc;rw[PM,wG];have e:((r.map (rep (n+1))).length=r.length/\(n+1)*width r+width r<=6)↔width r*(n+1+1)<=6:=by
    rw[XX,aaA,ZE (width r)];simp
   by_cases q:width r*(n+1+1)<=6
   .rw[if_pos (e.mpr q),if_pos q]
   .rw[if_neg (λz=>q (e.mp z)),if_neg q]
  .rw[if_neg h,if_neg (by rw[aaA];lia)];rfl
def FO(g:Good r)(hn:1<=n)(h:fI r n=some c):Good c:=by
 unfold fI at h;split at h
 .cases h;exact FL g hn (by rw[ZE];assumption)
 .cases h
theorem zu(g:Good r):∀n,Rect (n*r.length) (width r) (rep n r)
 |0=>#[by simp[rep],by simp[rep]]
 |n+1=>by
  rw[zr,YY];exact zq (zu g n) g.rX
def FP(g:Good r)(hn:1<=n)(h:n*r.length<=6):Good (rep n r):=
 (zu g n).good (aaH hn g.h1) h g.w1 g.w6
theorem FQ(g:Good r):∀n,down (n+1) (aq r)=(fJ r (n+1)).map aq
 |0=>by
  show some (aq r)=_;unfold fJ;rw[if_pos (by have:=g.h6;lia),Zh,FJ];rfl
 |n+1=>by
  show(down (n+1) (aq r)).bind (λy=>above y (aq r))=_;rw[FQ g n];unfold fJ;by_cases h:r.length*(n+1)<=6
  .have h':(n+1)*r.length<=6:=by rw[ZE];exact h
   have G:=FP g (show 1<=n+1 by lia) h';have R:=zu g (n+1);have wG:width (rep (n+1) r)=width r:=R.width (aaH (by lia) g.h1);rw[if_pos h];show above (aq (rep (n+1) r)) (aq r)=_;rw[FH G g];unfold ff;rw[<-zr,wG,R.len];have e:(width r=width r/\(n+1)*r.length+r.length<=6)↔r.length*(n+1+1)<=6:=by
    rw[aaA,ZE r.length];simp
   by_cases q:r.length*(n+1+1)<=6
   .rw[if_pos (e.mpr q),if_pos q]
   .rw[if_neg (λz=>q (e.mp z)),if_neg q]
  .rw[if_neg h,if_neg (by rw[aaA];lia)];rfl
def FR(g:Good r)(hn:1<=n)(h:fJ r n=some c):Good c:=by
 unfold fJ at h;split at h
 .cases h;exact FP g hn (by rw[ZE];assumption)
 .cases h
end Qm
namespace Qm
open Kyq1
variable{p:Patch}{a b r:Rows}{c:Nat}
def vG{q:Patch}:samePatch p q=true↔p=q:=by
 cases p;cases q;simp[samePatch,and_assoc]
theorem FT:∀ {l m:List Patch},sameCells l m=true↔l=m
 |[],[]=>by simp[sameCells]
 |[],_::_=>by simp[sameCells]
 |_::_,[]=>by simp[sameCells]
 |p::l,q::m=>by simp[sameCells,vG,FT (l:=l) (m:=m)]
def same_iff{x y:Block}:same x y=true↔x=y:=by
 cases x;cases y;simp[same,FT,and_assoc]
theorem FU{w:Nat}(hw:1<=w):∀ {a b:Rows},(∀x∈a,x.length=w)->(∀x∈b,x.length=w)->a.flatten=b.flatten->a=b
 |[],[],_,_,_=>rfl
 |[],y::t,_,hb,e=>by
  have:=hb y (by simp);have q:=congrArg List.length e;simp at q
  lia
 |x::t,[],ha,_,e=>by
  have:=ha x (by simp);have q:=congrArg List.length e;rw[Yt,XY]at q;simp only[List.flatten_nil,YD]at q
  lia
 |x::t,y::u,ha,hb,e=>by
  have hx:=ha x (by simp);have hy:=hb y (by simp);simp only[Yt]at e;obtain⟨e1,e2⟩:=List.append_inj e (by lia);rw[e1,FU hw (λz hz=>ha z (by simp[hz])) (λz hz=>hb z (by simp[hz])) e2]
def PN(A:Good a)(B:Good b)(e:aq a=aq b):a=b:=by
 injection e with e1 e2 e3;exact FU A.w1 A.row (by rw[e2];exact B.row) e3
def zv(A:Good a)(B:Good b):same (aq a) (aq b)=true↔a=b:=by
 rw[same_iff];exact#[PN A B,λe=>by rw[e]]
def kL:Nat->Rows->Rows
 |0,r=>r
 |n+1,r=>dS (kL n r)
def eU(s:Nat)(r:Rows):Rows:=if s<4 then kL s r else kL (s-4) (dU r)
theorem vH(g:Good r):∀n,Good (kL n r)
 |0=>g
 |n+1=>zo (vH g n)
theorem zx(g:Good r):∀n,turns n (aq r)=aq (kL n r)
 |0=>rfl
 |n+1=>by
  show turned (turns n (aq r))=_;rw[zx g n,FC (vH g n)];rfl
def FV(g:Good r)(s:Nat):Good (eU s r):=by
 unfold eU;split
 .exact vH g s
 .exact vH (vF g) (s-4)
def PQ(g:Good r)(s:Nat):moved s (aq r)=aq (eU s r):=by
 unfold moved eU;split
 .exact zx g s
 .rw[FD g,zx (vF g)]
def PR(g:Good r)[DecidableEq Patch]:fixing (aq r)=(List.range 8).filter λs=>decide (eU s r=r):=by
 unfold fixing;apply Y3;intro s _;rw[PQ g];by_cases h:eU s r=r
 .rw[Yc h,(zv (FV g s) g).mpr h]
 .rw[Yh h];cases q:same (aq (eU s r)) (aq r)with|false=>rfl|true=>exact absurd ((zv (FV g s) g).mp q) h
def cp:Exp->Prop
 |.patch p=>okPatch p=true
 |.name k=>k<8
 |.turn e=>cp e
 |.mirror e=>cp e
 |.beside x y=>cp x/\cp y
 |.above x y=>cp x/\cp y
 |.across n e=>2<=n/\n<=6/\cp e
 |.down n e=>2<=n/\n<=6/\cp e
theorem pL{b:Nat}(h:letter b=some c):b=64+c/\1<=c/\c<=9:=by
 unfold letter at h;split at h
 .cases h;lia
 .cases h
theorem jT(h1:1<=c)(h2:c<=9):letter (64+c)=some c:=by
 unfold letter;rw[if_pos (by lia)]
 congr 1
 lia
set_option tactic.hygienic true in
theorem my:∀(f:Nat) (t:Bytes) (e:Exp) (l:Bytes),read f t=some (e,l)->t=written e++l/\cp e
 |0,_,_,_,h=>by cases h
 |f+1,[],_,_,h=>by cases h
 |f+1,b::t,e,l,h=>by
  unfold Kyq1.read at h;simp only at h;split at h
  .rename_i hb;cases q:read f t with|none=>rw[q]at h;cases h|some x=>
    rw[q]at h;cases h;obtain⟨a,b'⟩:=my f t x.1 x.2 q;refine#[?_,b'];subst hb;show _=114::(written x.1++x.2);rw[<-a]
  .split at h
   .rename_i hb;cases q:read f t with|none=>rw[q]at h;cases h|some x=>
     rw[q]at h;cases h;obtain⟨a,b'⟩:=my f t x.1 x.2 q;refine#[?_,b'];subst hb;show _=109::(written x.1++x.2);rw[<-a]
   .split at h
    .rename_i hb;cases q:read f t with|none=>rw[q]at h;cases h|some x=>
      rw[q]at h;simp only[Option.bind_some]at h;cases q2:read f x.2 with|none=>rw[q2]at h;cases h|some y=>
       rw[q2]at h;cases h;obtain⟨a,a'⟩:=my f t x.1 x.2 q;obtain⟨c,c'⟩:=my f x.2 y.1 y.2 q2;refine#[?_,a',c'];subst hb;show _=124::(written x.1++written y.1++y.2);rw[Yw,<-c,<-a]
    .split at h
     .rename_i hb;cases q:read f t with|none=>rw[q]at h;cases h|some x=>
       rw[q]at h;simp only[Option.bind_some]at h;cases q2:read f x.2 with|none=>rw[q2]at h;cases h|some y=>
        rw[q2]at h;cases h;obtain⟨a,a'⟩:=my f t x.1 x.2 q;obtain⟨c,c'⟩:=my f x.2 y.1 y.2 q2;refine#[?_,a',c'];subst hb;show _=45::(written x.1++written y.1++y.2);rw[Yw,<-c,<-a]
     .split at h
      .rename_i hb;split at h
       .rename_i k m;split at h
        .rename_i hk;cases h;refine#[?_,show k-97<8 by lia];subst hb;show _=36::(97+(k-97))::l;rw[show 97+(k-97)=k by lia]
        .cases h
       .cases h
      .split at h
       .rename_i hb;split at h
        .rename_i n m;split at h
         .rename_i hn;cases q:read f m with|none=>rw[q]at h;cases h|some x=>
           rw[q]at h;obtain⟨a,a'⟩:=my f m x.1 x.2 q;have h':(if b=120 then Exp.across (n-48) x.1 else Exp.down (n-48) x.1,x.2)=(e,l):=XW h;injection h' with h1 h2;subst h2;rcases hb with hb|hb
           .rw[if_pos hb]at h1;subst h1 hb;refine#[?_,by lia,by lia,a'];show _=120::(48+(n-48))::(written x.1++x.2);rw[<-a,show 48+(n-48)=n by lia]
           .rw[if_neg (by lia)]at h1;subst h1 hb;refine#[?_,by lia,by lia,a'];show _=121::(48+(n-48))::(written x.1++x.2);rw[<-a,show 48+(n-48)=n by lia]
         .cases h
        .cases h
       .split at h
        .rename_i hb;split at h
         .rename_i i j m;split at h
          .rename_i p q hp hq;split at h
           .cases h
           .rename_i hne;have h':(Exp.patch #[if b=47 then 1 else 2,p,q],m)=(e,l):=XW h;injection h' with h1 h2;subst h2 h1;obtain⟨e1,e2,e3⟩:=pL hp;obtain⟨g1,g2,g3⟩:=pL hq;rcases hb with hb|hb
            .subst hb;refine#[?_,?_]
             .show _=47::(64+p)::(64+q)::m;rw[<-e1,<-g1]
             .simp[cp,okPatch,colour,e2,e3,g2,g3,hne]
            .subst hb;refine#[?_,?_]
             .show _=92::(64+p)::(64+q)::m;rw[<-e1,<-g1]
             .simp[cp,okPatch,colour,e2,e3,g2,g3,hne]
          .cases h
         .cases h
        .cases q:letter b with|none=>rw[q]at h;cases h|some c=>
          rw[q]at h;cases h;obtain⟨e1,e2,e3⟩:=pL q;refine#[?_,?_]
          .show _=(64+c)::t;rw[<-e1]
          .simp[cp,okPatch,colour,e2,e3]
theorem kM(h:okPatch p=true):1<=p.a/\p.a<=9/\1<=p.b/\p.b<=9/\((p.d=0/\p.a=p.b)\/((p.d=1\/p.d=2)/\p.a≠p.b)):=by
 unfold okPatch colour at h;simp only[Ya,Yx]at h;obtain⟨⟨⟨a1,a2⟩,b1,b2⟩,h⟩:=h;refine#[a1,a2,b1,b2,?_];split at h
 .rename_i q;exact .inl #[q,by simpa using h]
 .simp only[Ya,Yx,bne_iff_ne,ne_eq]at h;exact .inr #[by lia,h.2]
theorem PU:∀(e:Exp) (f:Nat) (l:Bytes),cp e->(written e).length<f->read f (written e++l)=some (e,l):=by
 intro e
 induction e with
 |patch p=>
  intro f l h hf;obtain⟨a1,a2,b1,b2,h⟩:=kM h;cases f with|zero=>lia|succ f=>
   cases p with|mk d a b=>
    simp only at a1 a2 b1 b2 h;rcases h with⟨rfl,rfl⟩|⟨rfl|rfl,hne⟩
    .show read (f+1) ((64+a)::l)=_;unfold Kyq1.read;simp only;rw[if_neg (by lia),if_neg (by lia),if_neg (by lia),if_neg (by lia),if_neg (by lia),if_neg (by lia),if_neg (by lia),jT a1 a2];rfl
    .show read (f+1) (47::(64+a)::(64+b)::l)=_;unfold Kyq1.read;simp[jT a1 a2,jT b1 b2,hne]
    .show read (f+1) (92::(64+a)::(64+b)::l)=_;unfold Kyq1.read;simp[jT a1 a2,jT b1 b2,hne]
 |name k=>
  intro f l h hf;have h:k<8:=h;cases f with|zero=>lia|succ f=>
   show read (f+1) (36::(97+k)::l)=_;unfold Kyq1.read;simp
   lia
 |turn e ih=>
  intro f l h hf;cases f with|zero=>lia|succ f=>
   have hf:(written e).length+1<f+1:=hf;show read (f+1) (114::(written e++l))=_;unfold Kyq1.read;simp[ih f l h (by lia)]
 |mirror e ih=>
  intro f l h hf;cases f with|zero=>lia|succ f=>
   have hf:(written e).length+1<f+1:=hf;show read (f+1) (109::(written e++l))=_;unfold Kyq1.read;simp[ih f l h (by lia)]
 |beside x y zy ihy=>
  intro f l h hf;cases f with|zero=>lia|succ f=>
   have hf:(written x++written y).length+1<f+1:=hf;rw[XY]at hf;show read (f+1) (124::(written x++written y++l))=_;rw[Yw];unfold Kyq1.read;simp[zy f (written y++l) h.1 (by lia),ihy f l h.2 (by lia)]
 |above x y zy ihy=>
  intro f l h hf;cases f with|zero=>lia|succ f=>
   have hf:(written x++written y).length+1<f+1:=hf;rw[XY]at hf;show read (f+1) (45::(written x++written y++l))=_;rw[Yw];unfold Kyq1.read;simp[zy f (written y++l) h.1 (by lia),ihy f l h.2 (by lia)]
 |across n e ih=>
  intro f l h hf;obtain⟨h1,h2,h3⟩:=h;cases f with|zero=>lia|succ f=>
   have hf:(written e).length+1+1<f+1:=hf;show read (f+1) (120::(48+n)::(written e++l))=_;unfold Kyq1.read;simp[ih f l h3 (by lia)]
   lia
 |down n e ih=>
  intro f l h hf;obtain⟨h1,h2,h3⟩:=h;cases f with|zero=>lia|succ f=>
   have hf:(written e).length+1+1<f+1:=hf;show read (f+1) (121::(48+n)::(written e++l))=_;unfold Kyq1.read;simp[ih f l h3 (by lia)]
   lia
set_option tactic.hygienic true in
theorem rZ{t:Bytes}{e:Exp}:expOf t=some e↔cp e/\t=written e:=by
 constructor
 .intro h;unfold expOf at h;split at h
  .rename_i e' q;cases h;obtain⟨a,b⟩:=my _ _ _ _ q;exact#[b,by rw[a,YC]]
  .cases h
 .rintro⟨h,rfl⟩;unfold expOf;have q:=PU e ((written e).length+1) [] h (by lia);rw[YC]at q;rw[q]
end Qm
namespace Qm
open Kyq1
variable{k:Tok}{env:Nat->Option Rows}{T:List Tok}{st:List Rows}
inductive Tok where
 |patch (p:Patch)
 |name (k:Nat)
 |turn
 |mirror
 |beside
 |above
 |across (n:Nat)
 |down (n:Nat)
def Tok.len:Tok->Nat
 |.patch p=>if p.d=0 then 1 else 3
 |.name _=>2
 |.across _=>2
 |.down _=>2
 |_=>1
noncomputable def Tok.arity:Tok->Nat
 |.patch _=>0
 |.name _=>0
 |.beside=>2
 |.above=>2
 |_=>1
noncomputable def Tok.bytes:Tok->List Nat
 |.patch p=>patchText p
 |.name k=>[36,97+k]
 |.turn=>[114]
 |.mirror=>[109]
 |.beside=>[124]
 |.above=>[45]
 |.across n=>[120,48+n]
 |.down n=>[121,48+n]
def Tok.Ok:Tok->Prop
 |.patch p=>okPatch p=true
 |.name k=>k<8
 |.across n=>2<=n/\n<=6
 |.down n=>2<=n/\n<=6
 |_=>True
noncomputable def toks:Exp->List Tok
 |.patch p=>[.patch p]
 |.name k=>[.name k]
 |.turn e=>.turn::toks e
 |.mirror e=>.mirror::toks e
 |.beside x y=>.beside::(toks x++toks y)
 |.above x y=>.above::(toks x++toks y)
 |.across n e=>.across n::toks e
 |.down n e=>.down n::toks e
theorem Tok.len_pos(k:Tok):1<=k.len:=by
 cases k with
 |patch p=>
  show 1<=if p.d=0 then 1 else 3
  split<;>lia
 |_=>exact Nat.le_of_ble_eq_true rfl
def Tok.FW(k:Tok):k.bytes.length=k.len:=by
 cases k with
 |patch p=>
  show(patchText p).length=if p.d=0 then 1 else 3
  unfold patchText;split<;>rfl
 |_=>rfl
theorem jm:∀e:Exp,written e=(toks e).flatMap Tok.bytes
 |.patch p=>by simp[written,toks,Tok.bytes]
 |.name k=>by simp[written,toks,Tok.bytes]
 |.turn e=>by simp[written,toks,Tok.bytes,jm e]
 |.mirror e=>by simp[written,toks,Tok.bytes,jm e]
 |.beside x y=>by simp[written,toks,Tok.bytes,jm x,jm y]
 |.above x y=>by simp[written,toks,Tok.bytes,jm x,jm y]
 |.across n e=>by simp[written,toks,Tok.bytes,jm e]
 |.down n e=>by simp[written,toks,Tok.bytes,jm e]
theorem jn:∀ {e:Exp},cp e->∀k∈toks e,k.Ok
 |.patch p,h,k,hk=>by simp[toks]at hk;subst hk;exact h
 |.name j,h,k,hk=>by simp[toks]at hk;subst hk;exact h
 |.turn e,h,k,hk=>by
  simp[toks]at hk;rcases hk with rfl|hk
  .trivial
  .exact jn (e:=e) h k hk
 |.mirror e,h,k,hk=>by
  simp[toks]at hk;rcases hk with rfl|hk
  .trivial
  .exact jn (e:=e) h k hk
 |.beside x y,h,k,hk=>by
  simp[toks]at hk;rcases hk with rfl|hk|hk
  .trivial
  .exact jn (e:=x) h.1 k hk
  .exact jn (e:=y) h.2 k hk
 |.above x y,h,k,hk=>by
  simp[toks]at hk;rcases hk with rfl|hk|hk
  .trivial
  .exact jn (e:=x) h.1 k hk
  .exact jn (e:=y) h.2 k hk
 |.across n e,h,k,hk=>by
  simp[toks]at hk;rcases hk with rfl|hk
  .exact#[h.1,h.2.1]
  .exact jn (e:=e) h.2.2 k hk
 |.down n e,h,k,hk=>by
  simp[toks]at hk;rcases hk with rfl|hk
  .exact#[h.1,h.2.1]
  .exact jn (e:=e) h.2.2 k hk
noncomputable def b8:List Nat->Option Tok
 |[]=>none
 |b::l=>match letter b with
  |some c=>some (.patch #[0,c,c])
  |none=>
   if b=114 then some .turn
   else if b=109 then some .mirror
   else if b=124 then some .beside
   else if b=45 then some .above
   else if b=47\/b=92 then(match l with
    |i::j::_=>(match letter i,letter j with
     |some p,some q=>if p=q then none else some (.patch #[if b=47 then 1 else 2,p,q])
     |_,_=>none)
    |_=>none)
   else(match l with
    |[]=>none
    |n::_=>if(b=120\/b=121)/\50<=n/\n<=54 then some (if b=120 then .across (n-48)else .down (n-48))
     else if b=36/\97<=n/\n<=104 then some (.name (n-97))else none)
def jU{b:Nat}(h:¬(65<=b/\b<=73)):letter b=none:=by
 unfold letter;rw[if_neg h]
theorem PV(h:k.Ok)(l:List Nat):b8 (k.bytes++l)=some k:=by
 cases k with
 |patch p=>
  obtain⟨a1,a2,b1,b2,h⟩:=kM h;cases p with|mk d a b=>
   simp only at a1 a2 b1 b2 h;rcases h with⟨rfl,rfl⟩|⟨rfl|rfl,hne⟩
   .show b8 ((64+a)::l)=_;simp only[b8,jT a1 a2]
   .show b8 (47::(64+a)::(64+b)::l)=_;simp[b8,jU,jT a1 a2,jT b1 b2,hne]
   .show b8 (92::(64+a)::(64+b)::l)=_;simp[b8,jU,jT a1 a2,jT b1 b2,hne]
 |name k=>
  have h:k<8:=h;show b8 (36::(97+k)::l)=_;simp[b8,jU]
  lia
 |turn=>simp[Tok.bytes,b8,jU]
 |mirror=>simp[Tok.bytes,b8,jU]
 |beside=>simp[Tok.bytes,b8,jU]
 |above=>simp[Tok.bytes,b8,jU]
 |across n=>
  obtain⟨h1,h2⟩:=h;show b8 (120::(48+n)::l)=_;simp[b8,jU]
  lia
 |down n=>
  obtain⟨h1,h2⟩:=h;show b8 (121::(48+n)::l)=_;simp[b8,jU]
  lia
set_option tactic.hygienic true in
theorem FX{t:List Nat}(h:b8 t=some k):k.Ok/\t=k.bytes++t.drop k.len:=by
 cases t with|nil=>cases h|cons b l=>
  unfold b8 at h;simp only at h;split at h
  .rename_i c hc;cases h;obtain⟨e1,e2,e3⟩:=pL hc;refine#[by simp[Tok.Ok,okPatch,colour,e2,e3],?_];show _=(64+c)::l;rw[<-e1]
  .split at h
   .rename_i hb;cases h;subst hb;exact#[trivial,rfl]
   split at h
   .rename_i hb;cases h;subst hb;exact#[trivial,rfl]
   split at h
   .rename_i hb;cases h;subst hb;exact#[trivial,rfl]
   split at h
   .rename_i hb;cases h;subst hb;exact#[trivial,rfl]
   split at h
   .rename_i hb;split at h
    .rename_i i j m;split at h
     .rename_i p q hp hq;split at h
      .cases h
      .rename_i hne;have h:=XW h;subst h;obtain⟨e1,e2,e3⟩:=pL hp;obtain⟨g1,g2,g3⟩:=pL hq;rcases hb with rfl|rfl
       .refine#[by simp[Tok.Ok,okPatch,colour,e2,e3,g2,g3,hne],?_];show _=47::(64+p)::(64+q)::m;rw[<-e1,<-g1]
       .refine#[by simp[Tok.Ok,okPatch,colour,e2,e3,g2,g3,hne],?_];show _=92::(64+p)::(64+q)::m;rw[<-e1,<-g1]
     .cases h
    .cases h
   .split at h
    .cases h
    .rename_i n m;split at h
     .rename_i hb;have h:=XW h;obtain⟨hb,h1,h2⟩:=hb;rcases hb with rfl|rfl
      .rw[if_pos rfl]at h;subst h;refine#[#[by lia,by lia],?_];show _=120::(48+(n-48))::m;rw[show 48+(n-48)=n by lia]
      .rw[if_neg (by lia)]at h;subst h;refine#[#[by lia,by lia],?_];show _=121::(48+(n-48))::m;rw[show 48+(n-48)=n by lia]
     .split at h
      .rename_i hb;have h:=XW h;obtain⟨rfl,h1,h2⟩:=hb;subst h;refine#[show n-97<8 by lia,?_];show _=36::(97+(n-97))::m;rw[show 97+(n-97)=n by lia]
      .cases h
noncomputable def scan:Nat->Nat->List Nat->Option (List Tok)
 |0,w,t=>if t=[]/\w=0 then some []else none
 |f+1,w,t=>if t=[]then(if w=0 then some []else none)else match b8 t with
  |none=>none
  |some k=>if w=0 then none else(scan f (w-1+k.arity) (t.drop k.len)).map (k::·)
def gx:Nat->List Tok->Prop
 |w,[]=>w=0
 |w,k::T=>1<=w/\gx (w-1+k.arity) T
theorem FY:∀ {f w:Nat} {t:List Nat} {T:List Tok},scan f w t=some T->gx w T/\(∀k∈T,k.Ok)/\t=T.flatMap Tok.bytes
 |0,w,t,T,h=>by
  unfold scan at h;split at h
  .rename_i q;cases h;exact#[q.2,by simp,by simp[q.1]]
  .cases h
 |f+1,w,t,T,h=>by
  unfold scan at h;split at h
  .rename_i q;split at h
   .rename_i q2;cases h;exact#[q2,by simp,by simp[q]]
   .cases h
  .split at h
   .cases h
   .rename_i k hk;split at h
    .cases h
    .rename_i hw;cases q:scan f (w-1+k.arity) (t.drop k.len)with|none=>rw[q]at h;cases h|some T'=>
      rw[q]at h;cases h;obtain⟨a,b,c⟩:=FY q;obtain⟨o,e⟩:=FX hk;refine#[#[by lia,a],λx hx=>?_,?_]
      .rcases X5.mp hx with rfl|hx
       .exact o
       .exact b x hx
      .rw[Yy,<-c];exact e
theorem FZ:∀ {T:List Tok} {f w:Nat},(T.flatMap Tok.bytes).length<=f->gx w T->(∀k∈T,k.Ok)->scan f w (T.flatMap Tok.bytes)=some T
 |[],0,w,_,hb,_=>by
  have hb:w=0:=hb;simp[scan,hb]
 |[],f+1,w,_,hb,_=>by
  have hb:w=0:=hb;simp[scan,hb]
 |k::T,f,w,hf,hb,hk=>by
  have o:=hk k (by simp);have lk:=k.FW;have lp:=k.len_pos;rw[Yy,XY]at hf;cases f with|zero=>lia|succ f=>
   obtain⟨h1,h2⟩:=hb;have ih:=FZ (T:=T) (f:=f) (w:=w-1+k.arity) (by lia) h2 λx hx=>hk x (by simp[hx]);unfold scan;rw[Yy,if_neg (λz=>by have:=congrArg List.length z;rw[XY,YD]at this;lia),PV o];simp only;rw[if_neg (by lia),List.drop_append_of_le_length (by lia),ZA (by lia),List.nil_append,ih];rfl
theorem jV:∀ {e:Exp} {w:Nat} {T:List Tok},gx w T->gx (w+1) (toks e++T)
 |.patch p,w,T,h=>#[by lia,h]
 |.name k,w,T,h=>#[by lia,h]
 |.turn e,w,T,h=>#[by lia,jV (e:=e) h]
 |.mirror e,w,T,h=>#[by lia,jV (e:=e) h]
 |.beside x y,w,T,h=>by
  refine#[by lia,?_];show gx _ (toks x++toks y++T);rw[Yw];exact jV (e:=x) (jV (e:=y) h)
 |.above x y,w,T,h=>by
  refine#[by lia,?_];show gx _ (toks x++toks y++T);rw[Yw];exact jV (e:=x) (jV (e:=y) h)
 |.across n e,w,T,h=>#[by lia,jV (e:=e) h]
 |.down n e,w,T,h=>#[by lia,jV (e:=e) h]
theorem F4:∀ {T:List Tok} {w:Nat},gx w T->(∀k∈T,k.Ok)->∃es:List Exp,es.length=w/\(∀e∈es,cp e)/\T=es.flatMap toks
 |[],w,h,_=>#[[],h.symm,by simp,by simp]
 |k::T,w,h,hk=>by
  obtain⟨h1,h2⟩:=h;obtain⟨es,e1,e2,e3⟩:=F4 h2 λx hx=>hk x (by simp[hx]);have o:=hk k (by simp);have leaf:∀e:Exp,toks e=[k]->cp e->k.arity=0->∃es:List Exp,es.length=w/\(∀e∈es,cp e)/\k::T=es.flatMap toks:=λe a b c=>
   #[e::es,by rw[c]at e1;simp;lia,by simp[b];exact e2,by rw[Yy,a,e3];rfl]
  have one:∀c:Exp->Exp,(∀e,toks (c e)=k::toks e)->(∀e,cp e->cp (c e))->k.arity=1->∃es:List Exp,es.length=w/\(∀e∈es,cp e)/\k::T=es.flatMap toks:=λc a b q=>by
   rw[q]at e1
   match es,e1,e2,e3 with
   |[],e1,_,_=>simp at e1
   |x::r,e1,e2,e3=>
    refine#[c x::r,by simp at e1 ⊢;lia,λe he=>?_,by rw[Yy,a,e3];rfl];rcases X5.mp he with rfl|he
    .exact b x (e2 x (by simp))
    .exact e2 e (by simp[he])
  have two:∀c:Exp->Exp->Exp,(∀e f,toks (c e f)=k::(toks e++toks f))->(∀e f,cp e->cp f->cp (c e f))->k.arity=2->∃es:List Exp,es.length=w/\(∀e∈es,cp e)/\k::T=es.flatMap toks:=λc a b q=>by
   rw[q]at e1
   match es,e1,e2,e3 with
   |[],e1,_,_=>simp at e1
   |[_],e1,_,_=>simp at e1
   |x::y::r,e1,e2,e3=>
    refine#[c x y::r,by simp at e1 ⊢;lia,λe he=>?_,by rw[Yy,a,e3];simp];rcases X5.mp he with rfl|he
    .exact b x y (e2 x (by simp)) (e2 y (by simp))
    .exact e2 e (by simp[he])
  cases k with|patch p=>exact leaf (.patch p) rfl o rfl|name j=>exact leaf (.name j) rfl o rfl|turn=>exact one .turn (λ_=>rfl) (λ_ h=>h) rfl|mirror=>exact one .mirror (λ_=>rfl) (λ_ h=>h) rfl|beside=>exact two .beside (λ_ _=>rfl) (λ_ _ h g=>#[h,g]) rfl|above=>exact two .above (λ_ _=>rfl) (λ_ _ h g=>#[h,g]) rfl|across n=>exact one (.across n) (λ_=>rfl) (λ_ h=>#[o.1,o.2,h]) rfl|down n=>exact one (.down n) (λ_=>rfl) (λ_ h=>#[o.1,o.2,h]) rfl
def pM(t:List Nat):Option (List Tok):=scan t.length 1 t
def PX(t:List Nat):pM t=(expOf t).map toks:=by
 cases q:expOf t with
 |some e=>
  obtain⟨o,rfl⟩:=rZ.mp q;unfold pM;have h:=FZ (T:=toks e) (f:=(written e).length) (w:=1) (by rw[<-jm];exact X0 _) (by have:=jV (e:=e) (w:=0) (T:=[]) rfl;rw[YC]at this;exact this) (jn o);rw[<-jm]at h;rw[h];rfl
 |none=>
  cases q2:pM t with|none=>rfl|some T=>
   obtain⟨a,b,c⟩:=FY q2;obtain⟨es,e1,e2,e3⟩:=F4 a b
   match es,e1,e2,e3 with
   |[e],_,e2,e3=>
    simp at e3;have h:expOf t=some e:=rZ.mpr #[e2 e (by simp),by rw[c,e3,jm]];rw[q]at h;cases h
noncomputable def c4(env:Nat->Option Rows):Tok->List Rows->Option (List Rows)
 |.patch p,st=>some ([[p]]::st)
 |.name k,st=>(env k).map (·::st)
 |.turn,x::st=>some (dS x::st)
 |.mirror,x::st=>some (dU x::st)
 |.beside,x::y::st=>(fc x y).map (·::st)
 |.above,x::y::st=>(ff x y).map (·::st)
 |.across n,x::st=>(fI x n).map (·::st)
 |.down n,x::st=>(fJ x n).map (·::st)
 |_,_=>none
def run(env:Nat->Option Rows):List Tok->Option (List Rows)
 |[]=>some []
 |k::T=>(run env T).bind (c4 env k)
noncomputable def aS(env:Nat->Option Rows):Exp->Option Rows
 |.patch p=>some [[p]]
 |.name k=>env k
 |.turn e=>(aS env e).map dS
 |.mirror e=>(aS env e).map dU
 |.beside x y=>(aS env x).bind λp=>(aS env y).bind λq=>fc p q
 |.above x y=>(aS env x).bind λp=>(aS env y).bind λq=>ff p q
 |.across n e=>(aS env e).bind λp=>fI p n
 |.down n e=>(aS env e).bind λp=>fJ p n
theorem kN(env:Nat->Option Rows):∀(e:Exp) (T:List Tok),run env (toks e++T)=(run env T).bind λst=>(aS env e).map (·::st)
 |.patch p,T=>by cases h:run env T<;>simp[toks,run,h,c4,aS]
 |.name k,T=>by cases h:run env T<;>simp[toks,run,h,c4,aS]
 |.turn e,T=>by
  have ih:=kN env e T;cases h:run env T<;>cases h2:aS env e<;>simp[toks,run,ih,h,h2,c4,aS]
 |.mirror e,T=>by
  have ih:=kN env e T;cases h:run env T<;>cases h2:aS env e<;>simp[toks,run,ih,h,h2,c4,aS]
 |.beside x y,T=>by
  have ih:=kN env x (toks y++T);have ih2:=kN env y T;cases h:run env T<;>cases h2:aS env x<;>cases h3:aS env y<;>simp[toks,run,ih,ih2,h,h2,h3,c4,aS]
 |.above x y,T=>by
  have ih:=kN env x (toks y++T);have ih2:=kN env y T;cases h:run env T<;>cases h2:aS env x<;>cases h3:aS env y<;>simp[toks,run,ih,ih2,h,h2,h3,c4,aS]
 |.across n e,T=>by
  have ih:=kN env e T;cases h:run env T<;>cases h2:aS env e<;>simp[toks,run,ih,h,h2,c4,aS]
 |.down n e,T=>by
  have ih:=kN env e T;cases h:run env T<;>cases h2:aS env e<;>simp[toks,run,ih,h,h2,c4,aS]
theorem F6(h:run env T=none):∀P:List Tok,run env (P++T)=none
 |[]=>h
 |k::P=>by
  show(run env (P++T)).bind _=none;rw[F6 h P];rfl
theorem F7:∀ {P T:List Tok} {w:Nat},gx w (P++T)->∃v,gx v T
 |[],T,w,h=>#[w,h]
 |k::P,T,w,h=>F7 (P:=P) h.2
def F8{st':List Rows}(h:c4 env k st=some st'):k.arity<=st.length/\st'.length=st.length-k.arity+1:=by
 cases k with
 |patch p=>simp[c4]at h;subst h;simp[Tok.arity]
 |name j=>
  simp only[c4]at h;cases q:env j with|none=>rw[q]at h;cases h|some b=>rw[q]at h;cases h;simp[Tok.arity]
 |turn=>cases st with
  |nil=>cases h
  |cons x r=>cases h;simp[Tok.arity]
 |mirror=>cases st with
  |nil=>cases h
  |cons x r=>cases h;simp[Tok.arity]
 |beside=>match st,h with
  |x::y::r,h=>
   simp only[c4]at h;cases q:fc x y with|none=>rw[q]at h;cases h|some b=>rw[q]at h;cases h;simp[Tok.arity]
 |above=>match st,h with
  |x::y::r,h=>
   simp only[c4]at h;cases q:ff x y with|none=>rw[q]at h;cases h|some b=>rw[q]at h;cases h;simp[Tok.arity]
 |across n=>match st,h with
  |x::r,h=>
   simp only[c4]at h;cases q:fI x n with|none=>rw[q]at h;cases h|some b=>rw[q]at h;cases h;simp[Tok.arity]
 |down n=>match st,h with
  |x::r,h=>
   simp only[c4]at h;cases q:fJ x n with|none=>rw[q]at h;cases h|some b=>rw[q]at h;cases h;simp[Tok.arity]
theorem vI:∀ {T:List Tok} {w:Nat} {st:List Rows},gx w T->run env T=some st->st.length=w
 |[],w,st,h,e=>by cases e;exact h.symm
 |k::T,w,st,h,e=>by
  obtain⟨h1,h2⟩:=h;unfold run at e;cases q:run env T with|none=>rw[q]at e;cases e|some s=>
   rw[q]at e;have ih:=vI h2 q;obtain⟨a,b⟩:=F8 (show c4 env k s=some st from e)
   lia
theorem PY{w:Nat}(h:gx w (k::T))(e:run env T=some st):k.arity<=st.length:=by
 have:=vI h.2 e
 lia
def F9(p:Patch):Good [[p]]:=#[by simp[width],by simp,by simp,by simp[width],by simp[width]]
theorem kO(he:∀k b,env k=some b->Good b):∀ {e:Exp},cp e->draw (λk=>(env k).map aq) e=(aS env e).map aq/\∀r,aS env e=some r->Good r
 |.patch p,_=>#[rfl,λr h=>by cases h;exact F9 p]
 |.name k,_=>#[rfl,λr h=>he k r h]
 |.turn e,o=>by
  obtain⟨a,b⟩:=kO he (e:=e) o;refine#[?_,λr h=>?_]
  .simp only[draw,aS,a];cases q:aS env e with|none=>rfl|some x=>simp[FC (b x q)]
  .simp only[aS]at h;cases q:aS env e with|none=>rw[q]at h;cases h|some x=>rw[q]at h;cases h;exact zo (b x q)
 |.mirror e,o=>by
  obtain⟨a,b⟩:=kO he (e:=e) o;refine#[?_,λr h=>?_]
  .simp only[draw,aS,a];cases q:aS env e with|none=>rfl|some x=>simp[FD (b x q)]
  .simp only[aS]at h;cases q:aS env e with|none=>rw[q]at h;cases h|some x=>rw[q]at h;cases h;exact vF (b x q)
 |.beside x y,o=>by
  obtain⟨a,b⟩:=kO he (e:=x) o.1;obtain⟨c,d⟩:=kO he (e:=y) o.2;refine#[?_,λr h=>?_]
  .simp only[draw,aS,a,c];cases q:aS env x with|none=>rfl|some u=>
    cases q2:aS env y with|none=>rfl|some v=>simp[FF (b u q) (d v q2)]
  .simp only[aS]at h;cases q:aS env x with|none=>rw[q]at h;cases h|some u=>
    rw[q]at h;cases q2:aS env y with|none=>rw[q2]at h;cases h|some v=>rw[q2]at h;exact(FG (b u q) (d v q2) h).1
 |.above x y,o=>by
  obtain⟨a,b⟩:=kO he (e:=x) o.1;obtain⟨c,d⟩:=kO he (e:=y) o.2;refine#[?_,λr h=>?_]
  .simp only[draw,aS,a,c];cases q:aS env x with|none=>rfl|some u=>
    cases q2:aS env y with|none=>rfl|some v=>simp[FH (b u q) (d v q2)]
  .simp only[aS]at h;cases q:aS env x with|none=>rw[q]at h;cases h|some u=>
    rw[q]at h;cases q2:aS env y with|none=>rw[q2]at h;cases h|some v=>rw[q2]at h;exact(FI (b u q) (d v q2) h).1
 |.across n e,o=>by
  obtain⟨a,b⟩:=kO he (e:=e) o.2.2;obtain⟨m,rfl⟩:∃m,n=m+1:=#[n-1,by have:=o.1;lia]
  refine#[?_,λr h=>?_]
  .simp only[draw,aS,a];cases q:aS env e with|none=>rfl|some x=>simp[FN (b x q)]
  .simp only[aS]at h;cases q:aS env e with|none=>rw[q]at h;cases h|some x=>rw[q]at h;exact FO (b x q) (by lia) h
 |.down n e,o=>by
  obtain⟨a,b⟩:=kO he (e:=e) o.2.2;obtain⟨m,rfl⟩:∃m,n=m+1:=#[n-1,by have:=o.1;lia]
  refine#[?_,λr h=>?_]
  .simp only[draw,aS,a];cases q:aS env e with|none=>rfl|some x=>simp[FQ (b x q)]
  .simp only[aS]at h;cases q:aS env e with|none=>rw[q]at h;cases h|some x=>rw[q]at h;exact FR (b x q) (by lia) h
end Qm
namespace Qm
open Kyq
variable{s:List Nat}{i j k n u:Nat}{l m:Slots}
theorem stab{α:Type}(f:α->α)(m:α->Nat)(P:α->Prop)(hP:∀a,P a->P (f a))(h:∀a,P a->f a=a\/m a<m (f a))(b:∀a,P a->m a<=8):
  ∀(n:Nat) (a:α),P a->8<=m a+n->f (Nat.repeat f n a)=Nat.repeat f n a
 |0,a,pa,hn=>by
  rcases h a pa with e|e
  .exact e
  .have:=b _ (hP a pa);lia
 |n+1,a,pa,hn=>by
  have comm:∀(n:Nat) (a:α),Nat.repeat f (n+1) a=Nat.repeat f n (f a):=by
   intro n
   induction n with|zero=>intro a;rfl|succ n ih=>intro a;show f (Nat.repeat f (n+1) a)=f (Nat.repeat f n (f a));rw[ih]
  rcases h a pa with e|e
  .have fix:∀n,Nat.repeat f n a=a:=by
    intro n
    induction n with|zero=>rfl|succ n ih=>show f (Nat.repeat f n a)=a;rw[ih,e]
   rw[fix,e]
  .rw[comm];exact stab f m P hP h b n (f a) (hP a pa) (by lia)
def near(l:Slots)(s:List Nat):List Nat:=(List.range 8).filter λj=>s.contains j||s.any λi=>(direct l i).contains j
theorem r8(l:Slots):∀(f:Nat) (s:List Nat),through l f s=Nat.repeat (near l) f s
 |0,s=>rfl
 |f+1,s=>by
  have comm:∀(n:Nat) (a:List Nat),Nat.repeat (near l) (n+1) a=Nat.repeat (near l) n (near l a):=by
   intro n
   induction n with|zero=>intro a;rfl|succ n ih=>intro a;show near l (Nat.repeat (near l) (n+1) a)=near l (Nat.repeat (near l) n (near l a));rw[ih]
  rw[comm];exact r8 l f _
inductive fg(s:List Nat):Prop|mk(p:Nat->Bool)(_:s=(List.range 8).filter p)
def pN(l:Slots)(k:Nat):fg (direct l k):=by
 unfold direct;split
 .exact#[λ_=>false,rfl]
 .exact#[_,rfl]
def r9(l:Slots)(s:List Nat):fg (near l s):=#[_,rfl]
def F_(h:fg s):s.length<=8:=by
 obtain⟨p,rfl⟩:=h;exact X8 (Za _ _) (by simp)
def r_(h:fg s)(hj:j∈s):j<8:=by
 obtain⟨p,rfl⟩:=h;simpa using(YI.mp hj).1
def Ga{t:List Nat}(hs:fg s)(ht:fg t)(h:∀j,j∈s↔j∈t):s=t:=by
 obtain⟨p,rfl⟩:=hs;obtain⟨q,rfl⟩:=ht;apply Y3;intro x hx;have:=h x;simp only[YI,hx,true_and]at this;cases a:p x<;>cases b:q x<;>simp_all
def PZ{t:List Nat}(hs:fg s)(ht:fg t)(h:∀j,j∈s->j∈t):s.Sublist t:=by
 have e:s=t.filter λj=>s.contains j:=by
  refine Ga hs ?_ λj=>?_
  .obtain⟨q,rfl⟩:=ht;rw[List.filter_filter];exact#[_,rfl]
  .simp only[YI,YV];exact#[λz=>#[h j z,z],λz=>z.2]
 rw[e];exact List.filter_sublist
def vJ{t:List Nat}(hs:fg s)(ht:fg t)(h:∀j,j∈s->j∈t):t=s\/s.length<t.length:=by
 have q:=PZ hs ht h;rcases Nat.lt_or_ge s.length t.length with z|z
 .exact .inr z
 .exact .inl (q.eq_of_length (Nat.le_antisymm q.length_le z)).symm
def vK(hs:fg s):j∈near l s↔j∈s\/∃i,i∈s/\j∈direct l i:=by
 unfold near;simp only[YI,Yb,Y6,YV,List.any_eq_true];constructor
 .rintro⟨_,h|⟨i,a,b⟩⟩
  .exact .inl h
  .exact .inr #[i,a,b]
 .rintro(h|⟨i,a,b⟩)
  .exact#[r_ hs h,.inl h]
  .exact#[r_ (pN l i) b,.inr #[i,a,b]]
def pO(l:Slots)(k:Nat):fg (uses l k):=by
 unfold uses;rw[r8];exact r9 l _
theorem pQ{α:Type}{f:α->α}{P:α->Prop}(hf:∀a,P a->P (f a)):∀(n:Nat) (a:α),P a->P (Nat.repeat f n a)
 |0,_,h=>h
 |n+1,a,h=>hf _ (pQ hf n a h)
def nM(h:j∈direct l k):j∈uses l k:=by
 unfold uses;rw[r8];have q:=pQ (f:=near l) (P:=λs=>fg s/\j∈s) (λs ⟨a,b⟩=>#[r9 l s,(vK a).mpr (.inl b)]) 8 (direct l k) #[pN l k,h];exact q.2
theorem vL(h:i∈uses l k)(hj:j∈direct l i):j∈uses l k:=by
 have fx:near l (uses l k)=uses l k:=by
  unfold uses;rw[r8];exact stab (near l) List.length fg (λs _=>r9 l s) (λs hs=>vJ hs (r9 l s) λj hj=>(vK hs).mpr (.inl hj)) (λs hs=>F_ hs) 8 _ (pN l k) (by lia)
 rw[<-fx];exact(vK (pO l k)).mpr (.inr #[i,h,hj])
def sf{S:Nat->Prop}(h0:∀j,j∈direct l k->S j)(hS:∀i j,S i->j∈direct l i->S j)(h:j∈uses l k):S j:=by
 unfold uses at h;rw[r8]at h;exact(pQ (f:=near l) (P:=λs=>fg s/\∀j,j∈s->S j) (λs ⟨a,b⟩=>#[r9 l s,λj hj=>by
  rcases(vK a).mp hj with z|⟨i,z,y⟩
  .exact b j z
  .exact hS i j (b i z) y]) 8 (direct l k) #[pN l k,h0]).2 j h
def zA(h:i∈uses l k)(hj:j∈uses l i):j∈uses l k:=
 sf (S:=λj=>j∈uses l k) (λj z=>vL h z) (λi j a b=>vL a b) hj
def Acyclic(l:Slots):Prop:=∀k,k∉uses l k
def zB(A:Acyclic l)(h:j∈uses l k):(uses l j).length<(uses l k).length:=by
 rcases vJ (pO l j) (pO l k) (λi hi=>zA h hi)with e|e
 .rw[e]at h;exact absurd h (A j)
 .exact e
def P0(A:Acyclic l)(hk:k<8):(uses l k).length<8:=by
 have full:fg (List.range 8):=#[λ_=>true,rfl]
 rcases vJ (pO l k) full (λi hi=>Yb.mpr (r_ (pO l k) hi))with e|e
 .have:=A k;rw[<-e]at this;exact absurd (Yb.mpr hk) this
 .simpa using e
theorem pR{α β:Type}{f:β->α->β}{P:β->Prop}(h:∀b a,P b->P (f b a)):∀(l:List α) (b:β),P b->P (l.foldl f b)
 |[],_,hb=>hb
 |a::l,b,hb=>pR h l (f b a) (h b a hb)
def gy(told:List Nat)(used name:Nat):Nat:=if used.testBit name=true then used|||told.getD name 0 else used
def f7(told:List Nat)(used:Nat):Nat:=(List.range 8).foldl (gy told) used
def fK(told:List Nat)(k:Nat):Nat:=(List.range 8).foldl (λu _=>f7 told u) (told.getD k 0)
theorem zC{α β:Type}(f:β->β):∀(l:List α) (b:β),l.foldl (λu _=>f u) b=Nat.repeat f l.length b
 |[],b=>rfl
 |a::l,b=>by
  have comm:∀(n:Nat) (a:β),Nat.repeat f (n+1) a=Nat.repeat f n (f a):=by
   intro n
   induction n with|zero=>intro a;rfl|succ n ih=>intro a;show f (Nat.repeat f (n+1) a)=f (Nat.repeat f n (f a));rw[ih]
  rw[YM,X2,comm];exact zC f l (f b)
def f9(u:Nat):List Nat:=(List.range 8).filter λj=>u.testBit j
def vM(u:Nat):fg (f9 u):=#[_,rfl]
theorem Gd(h:u<256)(hj:u.testBit j=true):j<8:=by
 rcases Nat.lt_or_ge j 8 with z|z
 .exact z
 .have:u<2^j:=Yf h (show 2^8<=2^j from Nat.pow_le_pow_right (by lia) z);rw[Nat.testBit_lt_two_pow this]at hj;cases hj
def sg(h:u<256):j∈f9 u↔u.testBit j=true:=by
 unfold f9;simp only[YI,Yb];exact#[λz=>z.2,λz=>#[Gd h z,z]]
def P1{v:Nat}(hu:u<256)(hv:v<256)(h:f9 u=f9 v):u=v:=by
 apply Nat.eq_of_testBit_eq;intro j;have a:=sg (j:=j) hu;have b:=sg (j:=j) hv;rw[h]at a;cases p:u.testBit j<;>cases q:v.testBit j<;>simp_all
def P2{told:List Nat}(ht:∀i,told.getD i 0<256)(h:u<256):gy told u n<256:=by
 unfold gy;split
 .exact Nat.or_lt_two_pow (n:=8) h (ht n)
 .exact h
def zD{told:List Nat}(h:u.testBit j=true):(gy told u n).testBit j=true:=by
 unfold gy;split
 .rw[ZF,h];rfl
 .exact h
def Ge{told:List Nat}(h:u.testBit j=true):(f7 told u).testBit j=true:=
 pR (P:=λ(v:Nat)=>v.testBit j=true) (λ_ _ z=>zD z) _ u h
def Gf{told:List Nat}(ht:∀i,told.getD i 0<256)(h:u<256):f7 told u<256:=
 pR (P:=λv=>v<256) (λ_ _ z=>P2 ht z) _ u h
theorem Gg{told:List Nat}(hj:(told.getD i 0).testBit j=true):∀(l:List Nat) (u:Nat),i∈l->u.testBit i=true->(l.foldl (gy told) u).testBit j=true
 |n::l,u,hi,hu=>by
  rw[YM];rcases X5.mp hi with rfl|hi
  .refine pR (P:=λ(v:Nat)=>v.testBit j=true) (λ_ _ z=>zD z) _ _ ?_;unfold gy;rw[if_pos hu,ZF,hj,Bool.or_true]
  .exact Gg hj l _ hi (zD hu)
structure Told(l:Slots)(told:List Nat):Prop where
 bits:∀i j,(told.getD i 0).testBit j=true↔j∈direct l i
theorem Told.lt{told:List Nat}(T:Told l told)(i:Nat):told.getD i 0<256:=by
 apply Z8;intro h;have e:told.getD i 0≠0:=by lia
 have q:(told.getD i 0).testBit (Nat.log2 (told.getD i 0))=true:=Nat.testBit_log2 e;have lt:=r_ (pN l i) ((T.bits i _).mp q);have:told.getD i 0<2^8:=(Nat.log2_lt e).mp lt
 lia
theorem zE{told:List Nat}(T:Told l told)(k j:Nat):(fK told k).testBit j=true↔j∈uses l k:=by
 have lt:=T.lt;constructor
 .intro h;refine pR (P:=λv=>∀j,v.testBit j=true->j∈uses l k) (λu _ hu=>?_) (List.range 8) (told.getD k 0) (λj hj=>nM ((T.bits k j).mp hj)) j h;refine pR (P:=λv=>∀j,v.testBit j=true->j∈uses l k) (λv n hv j hj=>?_) (List.range 8) u hu;unfold gy at hj;split at hj
  .rename_i hn;rw[ZF,Y6]at hj;rcases hj with z|z
   .exact hv j z
   .exact vL (hv n hn) ((T.bits n j).mp z)
  .exact hv j hj
 .intro h;have e:fK told k=Nat.repeat (f7 told) 8 (told.getD k 0):=zC (f7 told) (List.range 8) _;have ok:∀u,u<256->f7 told u<256:=λu h=>Gf lt h;have fx:f7 told (fK told k)=fK told k:=by
   rw[e];refine stab (f7 told) (λu=>(f9 u).length) (λu=>u<256) ok (λu hu=>?_) (λu _=>F_ (vM u)) 8 _ (lt k) (by lia);rcases vJ (vM u) (vM (f7 told u)) (λj hj=>(sg (ok u hu)).mpr (Ge ((sg hu).mp hj)))with z|z
   .exact .inl (P1 (ok u hu) hu z)
   .exact .inr z
  refine sf (S:=λj=>(fK told k).testBit j=true) (λj hj=>?_) (λi j hi hj=>?_) h
  .rw[e];exact pQ (P:=λ(u:Nat)=>u.testBit j=true) (λu hu=>Ge hu) 8 _ ((T.bits k j).mpr hj)
  .rw[<-fx];have h8:(fK told k)<256:=by
    rw[e];exact pQ (P:=λu=>u<256) (λu hu=>ok u hu) 8 _ (lt k)
   exact Gg ((T.bits i j).mpr hj) _ _ (by simpa using Gd h8 hi) hi
def Gi{told:List Nat}(T:Told l told)(k:Nat):fK told k<256:=by
 have e:fK told k=Nat.repeat (f7 told) 8 (told.getD k 0):=zC (f7 told) (List.range 8) _;rw[e];exact pQ (P:=λu=>u<256) (λu hu=>Gf T.lt hu) 8 _ (T.lt k)
def Gj{told:List Nat}(T:Told l told)(k:Nat):f9 (fK told k)=uses l k:=
 Ga (vM _) (pO l k) λj=>by rw[sg (Gi T k),zE T]
def Gk:∀n<256,n=Kyq1.bitsOf (f9 n):=by decide+kernel
def P4{told:List Nat}(T:Told l told)(k:Nat):Kyq1.bitsOf (uses l k)=fK told k:=by
 rw[<-Gj T k];exact(Gk _ (Gi T k)).symm
def Gm(h:n<256):Kyq1.bitsOf (f9 n)=n:=(Gk n h).symm
inductive Reach(l:Slots):Nat->Nat->Prop
 |one {i j:Nat}:j∈direct l i->Reach l i j
 |step {i m j:Nat}:m∈direct l i->Reach l m j->Reach l i j
theorem Reach.uses(h:Reach l i j):j∈uses l i:=by
 induction h with|one h=>exact nM h|step h _ ih=>exact zA (nM h) ih
def Reach.snoc(h:Reach l i j)(e:k∈direct l j):Reach l i k:=by
 induction h with|one h=>exact .step h (.one e)|step h _ ih=>exact .step h (ih e)
def sj:Reach l i j↔j∈uses l i:=
 #[Reach.uses,λh=>sf (S:=λj=>Reach l i j) (λj z=>.one z) (λa b x y=>x.snoc y) h]
def P5(h:∀i,i≠k->direct m i=direct l i)(r:Reach m i j):Reach l i j\/((i=k\/Reach m i k)/\Reach m k j):=by
 induction r with
 |@one i j e=>
  by_cases q:i=k
  .subst q;exact .inr #[.inl rfl,.one e]
  .rw[h i q]at e;exact .inl (.one e)
 |@step i n j e r ih=>
  by_cases q:i=k
  .subst q;exact .inr #[.inl rfl,.step e r]
  .rcases ih with z|⟨z|z,y⟩
   .rw[h i q]at e;exact .inl (.step e z)
   .subst z;exact .inr #[.inr (.one e),y]
   .exact .inr #[.inr (.step e z),y]
def P6(h:∀i,i≠k->direct m i=direct l i)(A:Acyclic l)(hk:k∉uses m k):Acyclic m:=by
 intro i hi;rcases P5 h (sj.mpr hi)with z|⟨z|z,y⟩
 .exact A i (sj.mp z)
 .subst z;exact hk (sj.mp y)
 .exact hk (zA (sj.mp y) (sj.mp z))
def P7(h:∀i j,j∈direct m i->j∈direct l i)(A:Acyclic l):Acyclic m:=by
 intro i hi;exact A i (sf (l:=m) (S:=λj=>j∈uses l i) (λj z=>nM (h i j z)) (λa b x y=>vL x (h a b y)) hi)
def Gn{o:Option Kyq1.Exp}(h:i≠k):direct (l.set k o) i=direct l i:=by
 unfold direct at_;rw[XU,XU,Zf (Ne.symm h)]
set_option tactic.hygienic true in
def P8(h:j∈direct (l.set k none) i):j∈direct l i:=by
 by_cases q:i=k
 .subst q;unfold direct at_ at h;rw[XU,Zi]at h;simp only[ite_true]at h;split at h
  .simp at h
  .rename_i e he;split at he<;>simp at he
 .rw[Gn q]at h;exact h
end Qm
namespace Qm
open Kyq Kyq1
variable{l:Slots}{j k:Nat}{e:Exp}{pre:List Nat}{dr:Nat->Option Rows}
def eV(l:Slots):Nat->Nat->Option Rows
 |0,_=>none
 |f+1,k=>match at_ l k with
  |none=>none
  |some e=>aS (eV l f) e
def bM(l:Slots)(k:Nat):Option Rows:=eV l 8 k
structure cb(l:Slots):Prop where
 len:l.length=8
 ok:∀k e,at_ l k=some e->cp e
theorem zF(O:cb l):∀f k,Kyq.blockOf l f k=(eV l f k).map aq/\∀r,eV l f k=some r->Good r
 |0,k=>#[rfl,λr h=>by cases h]
 |f+1,k=>by
  have ih:=zF O f;have e1:Kyq.blockOf l f=λk=>(eV l f k).map aq:=funext λk=>(ih k).1;show(match at_ l k with|none=>none|some e=>Kyq1.draw (Kyq.blockOf l f) e)=Option.map aq (match at_ l k with|none=>none|some e=>aS (eV l f) e)/\∀r,(match at_ l k with|none=>none|some e=>aS (eV l f) e)=some r->Good r;cases q:at_ l k with|none=>exact#[rfl,λr h=>by cases h]|some e=>
   obtain⟨a,b⟩:=kO (env:=eV l f) (λj b h=>(ih j).2 b h) (O.ok k e q);refine#[?_,b];simp only[e1];exact a
def vN(O:cb l)(k:Nat):drawn l k=(bM l k).map aq:=(zF O 8 k).1
def zG(O:cb l){r:Rows}(h:bM l k=some r):Good r:=(zF O 8 k).2 r h
theorem jo{env env':Nat->Option Rows}:∀ {e:Exp},(∀j∈names e,env j=env' j)->aS env e=aS env' e
 |.patch p,_=>rfl
 |.name k,h=>h k (by simp[names])
 |.turn e,h=>by simp only[aS];rw[jo (e:=e) h]
 |.mirror e,h=>by simp only[aS];rw[jo (e:=e) h]
 |.beside x y,h=>by
  simp only[aS];rw[jo (e:=x) λj hj=>h j (Ze _ hj),jo (e:=y) λj hj=>h j (Yo _ hj)]
 |.above x y,h=>by
  simp only[aS];rw[jo (e:=x) λj hj=>h j (Ze _ hj),jo (e:=y) λj hj=>h j (Yo _ hj)]
 |.across n e,h=>by simp only[aS];rw[jo (e:=e) h]
 |.down n e,h=>by simp only[aS];rw[jo (e:=e) h]
theorem kP:∀ {e:Exp},cp e->∀j∈names e,j<8
 |.patch p,_,j,hj=>by simp[names]at hj
 |.name k,h,j,hj=>by simp[names]at hj;subst hj;exact h
 |.turn e,h,j,hj=>kP (e:=e) h j hj
 |.mirror e,h,j,hj=>kP (e:=e) h j hj
 |.beside x y,h,j,hj=>by
  rcases Yr.mp hj with q|q
  .exact kP (e:=x) h.1 j q
  .exact kP (e:=y) h.2 j q
 |.above x y,h,j,hj=>by
  rcases Yr.mp hj with q|q
  .exact kP (e:=x) h.1 j q
  .exact kP (e:=y) h.2 j q
 |.across n e,h,j,hj=>kP (e:=e) h.2.2 j hj
 |.down n e,h,j,hj=>kP (e:=e) h.2.2 j hj
def vO(O:cb l)(h:at_ l k=some e):j∈direct l k↔j∈names e:=by
 unfold direct;rw[h];simp only[YI,Yb,YV];exact#[λz=>z.2,λz=>#[kP (O.ok k e h) j z,z]]
def Gp(h:at_ l k=none):direct l k=[]:=by
 unfold direct;rw[h]
def cnt(l:Slots)(k:Nat):Nat:=(uses l k).length
theorem vP(O:cb l)(A:Acyclic l):∀(n k:Nat),cnt l k<n->∀f,cnt l k<f->eV l f k=eV l (cnt l k+1) k
 |0,k,h,_,_=>by lia
 |n+1,k,h,f,hf=>by
  obtain⟨g,rfl⟩:∃g,f=g+1:=#[f-1,by lia]
  show(match at_ l k with|none=>none|some e=>aS (eV l g) e)=(match at_ l k with|none=>none|some e=>aS (eV l (cnt l k)) e);cases q:at_ l k with|none=>rfl|some e=>
   apply jo;intro j hj;have lt:cnt l j<cnt l k:=zB A (nM ((vO O q).mpr hj));rw[vP O A n j (by lia) g (by lia),vP O A n j (by lia) (cnt l k) lt]
theorem P9(O:cb l)(A:Acyclic l)(hk:k<8)(h:at_ l k=some e):bM l k=aS (bM l) e:=by
 show(match at_ l k with|none=>none|some e=>aS (eV l 7) e)=_;rw[h];apply jo;intro j hj;have lt:cnt l j<cnt l k:=zB A (nM ((vO O h).mpr hj));have b:cnt l k<8:=P0 A hk;show eV l 7 j=eV l 8 j;rw[vP O A 8 j (by lia) 7 (by lia),vP O A 8 j (by lia) 8 (by lia)]
def P_(h:at_ l k=none):bM l k=none:=by
 show(match at_ l k with|none=>none|some e=>aS (eV l 7) e)=_;rw[h]
def sq(l:Slots)(pre:List Nat)(dr:Nat->Option Rows):Prop:=∀j,j<8->dr j=if j∈pre then bM l j else none
theorem Qa(O:cb l)(A:Acyclic l){post:List Nat}(P:(pre++k::post).Perm (List.range 8))(S:(pre++k::post).Pairwise λi j=>cnt l i<=cnt l j)
  {dr:Nat->Option Rows} (D:sq l pre dr) {e:Exp} (h:at_ l k=some e):aS dr e=bM l k:=by
 have hk:k<8:=Yb.mp (P.mem_iff.mp (by simp));rw[P9 O A hk h];apply jo;intro j hj;have dj:=(vO O h).mpr hj;have lt:cnt l j<cnt l k:=zB A (nM dj);have j8:j<8:=r_ (pN l k) dj;have mem:j∈pre++k::post:=P.mem_iff.mpr (Yb.mpr j8);have hp:j∈pre:=by
  rcases Yr.mp mem with q|q
  .exact q
  .rcases X5.mp q with rfl|q
   .lia
   .have s2:=(List.pairwise_append.mp S).2.1;have:=(Zb.mp s2).1 j q
    lia
 rw[D j j8,if_pos hp]
def Gq{zH:Nat->Option Rows}(D:sq l pre dr)(h1:zH k=bM l k)(h2:∀j,j≠k->zH j=dr j):sq l (pre++[k]) zH:=by
 intro j hj;by_cases q:j=k
 .subst q;rw[h1,if_pos (by simp)]
 .rw[h2 j q,D j hj];by_cases z:j∈pre
  .rw[if_pos z,if_pos (by simp[z])]
  .rw[if_neg z,if_neg (by simp[z,q])]
def Qb{order:List Nat}(P:order.Perm (List.range 8))(D:sq l order dr)(hj:j<8):dr j=bM l j:=by
 rw[D j hj,if_pos (P.mem_iff.mpr (Yb.mpr hj))]
def Gr(env:Nat->Option Rows)(T:List Tok):Option Rows:=(run env T).bind List.head?
def Qc(env:Nat->Option Rows)(e:Exp):Gr env (toks e)=aS env e:=by
 unfold Gr;have:=kN env e [];rw[YC]at this;rw[this];cases aS env e<;>rfl
theorem kQ:∀ {e:Exp} {j:Nat},j∈names e↔Tok.name j∈toks e
 |.patch p,j=>by simp[names,toks]
 |.name k,j=>by simp[names,toks]
 |.turn e,j=>by simp[names,toks,kQ (e:=e)]
 |.mirror e,j=>by simp[names,toks,kQ (e:=e)]
 |.beside x y,j=>by simp[names,toks,kQ (e:=x),kQ (e:=y)]
 |.above x y,j=>by simp[names,toks,kQ (e:=x),kQ (e:=y)]
 |.across n e,j=>by simp[names,toks,kQ (e:=e)]
 |.down n e,j=>by simp[names,toks,kQ (e:=e)]
def nameStep(b:Nat):Tok->Nat
 |.name j=>b|||1<<<j
 |_=>b
def namesIn(T:List Tok):Nat:=T.foldl nameStep 0
theorem zI(j i:Nat):(1<<<j).testBit i=decide (i=j):=by
 rw[Nat.testBit_shiftLeft];by_cases h:i=j
 .subst h;simp
 .rw[Yh h];by_cases z:j<=i
  .have:∃d,i-j=d+1:=#[i-j-1,by lia]
   obtain⟨d,e⟩:=this;simp[e,Nat.testBit_succ,z]
  .simp[z]
theorem Gs:∀(T:List Tok) (b i:Nat),(T.foldl nameStep b).testBit i=true↔b.testBit i=true\/Tok.name i∈T
 |[],b,i=>by simp
 |k::T,b,i=>by
  rw[YM,Gs T];cases k with
  |name j=>
   simp only[nameStep,ZF,zI,Y6,Yx,X5,Tok.name.injEq];constructor
   .rintro((a|a)|a)
    .exact .inl a
    .exact .inr (.inl a)
    .exact .inr (.inr a)
   .rintro(a|a|a)
    .exact .inl (.inl a)
    .exact .inl (.inr a)
    .exact .inr a
  |_=>simp[nameStep]
def Qe{i:Nat}:(namesIn (toks e)).testBit i=true↔i∈names e:=by
 unfold namesIn;rw[Gs,kQ];simp
end Qm
namespace Qm
open Kyq1 Kyq2
variable{k m:Nat}{b:Block}{p q:Kyq2.Rect}
theorem Gu{α:Type}(g:Nat->List α):∀(n s i j:Nat),(∀k,(g k).length=m)->i<n->j<m->((List.range' s n).flatMap g)[i*m+j]?=(g (s+i))[j]?
 |0,_,_,_,_,h,_=>by lia
 |n+1,s,0,j,hg,_,hj=>by
  rw[List.range'_succ,Yy,Nat.zero_mul,Zh,Zd (by rw[hg];exact hj)];simp
 |n+1,s,i+1,j,hg,hi,hj=>by
  have e:(i+1)*m+j=m+(i*m+j):=by rw[YY];lia
  rw[List.range'_succ,Yy,e,YH (by rw[hg];lia),hg,show m+(i*m+j)-m=i*m+j by lia,Gu g n (s+1) i j hg (by lia) hj,show s+1+i=s+(i+1) by lia]
def zJ{α:Type}{n:Nat}(g:Nat->List α){i j:Nat}(hg:∀k,(g k).length=m)(hi:i<n)(hj:j<m):((List.range n).flatMap g)[i*m+j]?=(g i)[j]?:=by
 rw[List.range_eq_range'];simpa using Gu g n 0 i j hg hi hj
def Gv{α:Type}(g:Nat->List α)(hg:∀k,(g k).length=m)(n:Nat):((List.range n).flatMap g).length=n*m:=by
 induction n with|zero=>simp|succ n ih=>rw[Zp,Zw,XY,ih,YY];simp[hg]
def idx(b:Block)(q:Kyq2.Rect):Nat:=(((q.h-1)*b.w+(q.w-1))*b.h+q.r)*b.w+q.c
noncomputable def inside(b:Block)(q:Kyq2.Rect):Prop:=1<=q.h/\1<=q.w/\q.r+q.h<=b.h/\q.c+q.w<=b.w
theorem Qg(h:inside b q):(parts b)[idx b q]?=some q:=by
 obtain⟨h1,h2,h3,h4⟩:=h;unfold parts idx;have l1:∀h w r:Nat,((List.range b.w).map λc=>(#[r,c,h+1,w+1]:Kyq2.Rect)).length=b.w:=λ_ _ _=>by simp
 have l2:∀h w:Nat,((List.range b.h).flatMap λr=>(List.range b.w).map λc=>(#[r,c,h+1,w+1]:Kyq2.Rect)).length=b.h*b.w:=λh w=>Gv _ (l1 h w) _;have l3:∀h:Nat,((List.range b.w).flatMap λw=>(List.range b.h).flatMap λr=>(List.range b.w).map λc=>(#[r,c,h+1,w+1]:Kyq2.Rect)).length=b.w*(b.h*b.w):=λh=>Gv _ (l2 h) _;have e:(((q.h-1)*b.w+(q.w-1))*b.h+q.r)*b.w+q.c=(q.h-1)*(b.w*(b.h*b.w))+((q.w-1)*(b.h*b.w)+(q.r*b.w+q.c)):=by
  simp only[Nat.add_mul,Nat.mul_assoc,ZN]
 have k1:q.r*b.w+q.c<b.h*b.w:=by
  have:q.r*b.w+b.w<=b.h*b.w:=by rw[<-YY];exact aad _ (by lia)
  lia
 have k2:(q.w-1)*(b.h*b.w)+(q.r*b.w+q.c)<b.w*(b.h*b.w):=by
  have:(q.w-1)*(b.h*b.w)+b.h*b.w<=b.w*(b.h*b.w):=by rw[<-YY];exact aad _ (by lia)
  lia
 rw[e,zJ _ l3 (by lia) k2,zJ _ (l2 _) (by lia) k1,zJ _ (l1 _ _) (by lia) (by lia)];rw[X1,Yn (by lia)];cases q;simp at h1 h2 ⊢
 lia
def grow{α β:Type}(F:List β->α->β)(L:List α)(t:List β):List β:=L.foldl (λt q=>t++[F t q]) t
theorem Gw{α β:Type}(F:List β->α->β):∀(L:List α) (t:List β),∃u,grow F L t=t++u/\u.length=L.length
 |[],t=>#[[],by simp[grow],rfl]
 |q::L,t=>by
  obtain⟨u,e,l⟩:=Gw F L (t++[F t q]);refine#[F t q::u,?_,by simp[l]];show grow F L (t++[F t q])=_;rw[e];simp
theorem Gx{α β:Type}(F:List β->α->β):∀(L:List α) (t:List β) (i:Nat) (q:α),L[i]?=some q->(grow F L t)[t.length+i]?=some (F ((grow F L t).take (t.length+i)) q)
 |[],t,i,q,h=>by simp at h
 |p::L,t,0,q,h=>by
  simp at h;subst h;obtain⟨u,e,l⟩:=Gw F L (t++[F t p]);have e':grow F (p::L) t=t++(F t p::u):=by
   show grow F L (t++[F t p])=_;rw[e];simp
  rw[e',ZG,YH (X0 _),List.take_left];simp
 |p::L,t,i+1,q,h=>by
  have ih:=Gx F L (t++[F t p]) i q (by simpa using h);rw[XY]at ih;have e:t.length+(i+1)=t.length+[F t p].length+i:=by simp;lia
  show(grow F L (t++[F t p]))[t.length+(i+1)]?=some (F ((grow F L (t++[F t p])).take (t.length+(i+1))) q);rw[e];exact ih
def pS(b:Block)(look:Kyq2.Rect->Best)(q:Kyq2.Rect):Best:=if piece b q then nothing else
 let u:=(List.range (q.w-1)).map λi=>
  let x:=look (left q (i+1));let y:=look (right q (i+1))
  (#[x.n+y.n+1,x.long+y.long+q.h,.upright (i+1) x.plan y.plan]:Best)
 let v:=(List.range (q.h-1)).map λi=>
  let x:=look (upper q (i+1));let y:=look (lower q (i+1))
  (#[x.n+y.n+1,x.long+y.long+q.w,.level (i+1) x.plan y.plan]:Best)
 match u++v with
 |[]=>nothing
 |x::l=>first x l
def Qh(b:Block)(t:List Best)(q:Kyq2.Rect):bestOf b t q=pS b (at_ b t) q:=rfl
theorem Qi{look look':Kyq2.Rect->Best}(hu:∀i,1<=i->i<q.w->look (left q i)=look' (left q i)/\look (right q i)=look' (right q i))
  (hv:∀i,1<=i->i<q.h->look (upper q i)=look' (upper q i)/\look (lower q i)=look' (lower q i)):pS b look q=pS b look' q:=by
 unfold pS;have e1:((List.range (q.w-1)).map λi=>(#[(look (left q (i+1))).n+(look (right q (i+1))).n+1,(look (left q (i+1))).long+(look (right q (i+1))).long+q.h,.upright (i+1) (look (left q (i+1))).plan (look (right q (i+1))).plan]:Best))
   =((List.range (q.w-1)).map λi=>(#[(look' (left q (i+1))).n+(look' (right q (i+1))).n+1,(look' (left q (i+1))).long+(look' (right q (i+1))).long+q.h,.upright (i+1) (look' (left q (i+1))).plan (look' (right q (i+1))).plan]:Best)):=by
  apply Zl;intro i hi;have:=Yb.mp hi;rw[(hu (i+1) (by lia) (by lia)).1,(hu (i+1) (by lia) (by lia)).2]
 have e2:((List.range (q.h-1)).map λi=>(#[(look (upper q (i+1))).n+(look (lower q (i+1))).n+1,(look (upper q (i+1))).long+(look (lower q (i+1))).long+q.w,.level (i+1) (look (upper q (i+1))).plan (look (lower q (i+1))).plan]:Best))
   =((List.range (q.h-1)).map λi=>(#[(look' (upper q (i+1))).n+(look' (lower q (i+1))).n+1,(look' (upper q (i+1))).long+(look' (lower q (i+1))).long+q.w,.level (i+1) (look' (upper q (i+1))).plan (look' (lower q (i+1))).plan]:Best)):=by
  apply Zl;intro i hi;have:=Yb.mp hi;rw[(hv (i+1) (by lia) (by lia)).1,(hv (i+1) (by lia) (by lia)).2]
 simp only;rw[e1,e2]
theorem sr{a a' r r' H:Nat}(h:a<a')(hr:r<H):a*H+r<a'*H+r':=by
 have:a*H+H<=a'*H:=by rw[<-YY];exact aad _ h
 lia
theorem Gy(hp:inside b p)(h:p.h=q.h)(w:p.w<q.w):idx b p<idx b q:=by
 obtain⟨p1,p2,p3,p4⟩:=hp;unfold idx;refine sr (sr ?_ (by lia)) (by lia);rw[h]
 lia
theorem Gz(hp:inside b p)(h:p.h<q.h):idx b p<idx b q:=by
 obtain⟨p1,p2,p3,p4⟩:=hp;unfold idx;exact sr (sr (sr (by lia) (by lia)) (by lia)) (by lia)
theorem pU(h:inside b q)(h1:1<=k)(h2:k<q.w):inside b (left q k):=by
 obtain⟨a,c,d,e⟩:=h;exact#[a,h1,d,by show q.c+k<=b.w;lia]
theorem pV(h:inside b q)(h1:1<=k)(h2:k<q.w):inside b (right q k):=by
 obtain⟨a,c,d,e⟩:=h;exact#[a,by show 1<=q.w-k;lia,d,by show q.c+k+(q.w-k)<=b.w;lia]
theorem pW(h:inside b q)(h1:1<=k)(h2:k<q.h):inside b (upper q k):=by
 obtain⟨a,c,d,e⟩:=h;exact#[h1,c,by show q.r+k<=b.h;lia,e]
theorem pX(h:inside b q)(h1:1<=k)(h2:k<q.h):inside b (lower q k):=by
 obtain⟨a,c,d,e⟩:=h;exact#[by show 1<=q.h-k;lia,c,by show q.r+k+(q.h-k)<=b.h;lia,e]
def bestAt(b:Block)(q:Kyq2.Rect):Best:=at_ b (table b) q
theorem GA(h:inside b q):bestAt b q=pS b (bestAt b) q:=by
 let F:List Best->Kyq2.Rect->Best:=λt q=>if q.r+q.h<=b.h/\q.c+q.w<=b.w then bestOf b t q else nothing
 have tb:table b=grow F (parts b) []:=rfl;have g:=Gx F (parts b) [] (idx b q) q (Qg h);rw[<-tb]at g;simp only[YD,Zh]at g;have look:∀p,idx b p<idx b q->at_ b ((table b).take (idx b q)) p=bestAt b p:=λp hp=>by
  show((table b).take (idx b q)).getD (idx b p) nothing=(table b).getD (idx b p) nothing;rw[XU,XU,aav hp]
 have v:bestAt b q=F ((table b).take (idx b q)) q:=by
  show(table b).getD (idx b q) nothing=_;rw[XU,g];rfl
 rw[v];show(if q.r+q.h<=b.h/\q.c+q.w<=b.w then bestOf b _ q else nothing)=_;rw[if_pos #[h.2.2.1,h.2.2.2],Qh];refine Qi (λi h1 h2=>#[?_,?_]) λi h1 h2=>#[?_,?_]
 .exact look _ (Gy (pU h h1 h2) rfl h2)
 .exact look _ (Gy (pV h h1 h2) rfl (by show q.w-i<q.w;have:=h.2.1;lia))
 .exact look _ (Gz (pW h h1 h2) h2)
 .exact look _ (Gz (pX h h1 h2) (by show q.h-i<q.h;have:=h.1;lia))
end Qm
namespace Qm
open Kyq1 Kyq
variable{p:Patch}{a b c r:Rows}{k n:Nat}{env:Nat->Option Rows}{l:Slots}
def eB(r:Rows):Prop:=∀row∈r,∀p∈row,okPatch p=true
def Qj:okPatch bare=true:=rfl
def Qk(h:okPatch p=true):okPatch (patchTurned p)=true:=by
 obtain⟨a1,a2,b1,b2,h⟩:=kM h;cases p with|mk d a b=>
  simp only at a1 a2 b1 b2 h;rcases h with⟨rfl,rfl⟩|⟨rfl|rfl,hne⟩
  .simp[patchTurned,okPatch,colour,a1,a2]
  .simp[patchTurned,okPatch,colour,a1,a2,b1,b2,hne]
  .simp[patchTurned,okPatch,colour,a1,a2,b1,b2];exact λz=>hne z.symm
def Ql(h:okPatch p=true):okPatch (patchMirrored p)=true:=by
 obtain⟨a1,a2,b1,b2,h⟩:=kM h;cases p with|mk d a b=>
  simp only at a1 a2 b1 b2 h;rcases h with⟨rfl,rfl⟩|⟨rfl|rfl,hne⟩
  .simp[patchMirrored,okPatch,colour,a1,a2]
  .simp[patchMirrored,okPatch,colour,a1,a2,b1,b2,hne]
  .simp[patchMirrored,okPatch,colour,a1,a2,b1,b2,hne]
theorem Qn(h:okPatch p=true):p.d<=2:=by
 obtain⟨_,_,_,_,h⟩:=kM h
 lia
def GB(h:eB r):eB (dS r):=by
 intro row hr p hp;simp only[dS,Yp,Yb,ZK]at hr;obtain⟨c,_,rfl⟩:=hr;simp only[Yp,ZK]at hp;obtain⟨x,hx,rfl⟩:=hp;apply Qk;rw[XU];cases q:x[c]? with|none=>exact Qj|some y=>exact h x hx y (X_ q)
def GC(h:eB r):eB (dU r):=by
 intro row hr p hp;simp only[dU,Yp]at hr;obtain⟨x,hx,rfl⟩:=hr;simp only[Yp,ZK]at hp;obtain⟨y,hy,rfl⟩:=hp;exact Ql (h x hx y hy)
theorem GD(A:eB a)(B:eB b)(h:fc a b=some c):eB c:=by
 unfold fc at h;split at h
 .cases h;intro row hr p hp;obtain⟨i,hi,rfl⟩:=Y8 hr;have h1:i<a.length:=by simp at hi;lia
  have h2:i<b.length:=by simp at hi;lia
  simp at hp;rcases hp with q|q
  .exact A _ (Ys h1) p q
  .exact B _ (Ys h2) p q
 .cases h
def GF(A:eB a)(B:eB b)(h:ff a b=some c):eB c:=by
 unfold ff at h;split at h
 .cases h;intro row hr p hp;rcases Yr.mp hr with q|q
  .exact A row q p hp
  .exact B row q p hp
 .cases h
def GG{α:Type}{l:List α}{x:α}(h:x∈rep n l):x∈l:=by
 unfold rep at h;obtain⟨m,hm,hx⟩:=aaB.mp h;rw[(List.mem_replicate.mp hm).2]at hx;exact hx
def GH(A:eB a)(h:fI a n=some c):eB c:=by
 unfold fI at h;split at h
 .cases h;intro row hr p hp;obtain⟨x,hx,rfl⟩:=Yp.mp hr;exact A x hx p (GG hp)
 .cases h
def GI(A:eB a)(h:fJ a n=some c):eB c:=by
 unfold fJ at h;split at h
 .cases h;intro row hr p hp;exact A row (GG hr) p hp
 .cases h
theorem kR(he:∀k b,env k=some b->eB b):∀ {e:Exp},cp e->∀r,aS env e=some r->eB r
 |.patch p,o,r,h=>by
  cases h;intro row hr q hq;simp at hr;subst hr;simp at hq;subst hq;exact o
 |.name k,o,r,h=>he k r h
 |.turn e,o,r,h=>by
  simp only[aS]at h;cases q:aS env e with|none=>rw[q]at h;cases h|some x=>rw[q]at h;cases h;exact GB (kR he (e:=e) o x q)
 |.mirror e,o,r,h=>by
  simp only[aS]at h;cases q:aS env e with|none=>rw[q]at h;cases h|some x=>rw[q]at h;cases h;exact GC (kR he (e:=e) o x q)
 |.beside x y,o,r,h=>by
  simp only[aS]at h;cases q:aS env x with|none=>rw[q]at h;cases h|some u=>
   rw[q]at h;cases q2:aS env y with|none=>rw[q2]at h;cases h|some v=>rw[q2]at h;exact GD (kR he (e:=x) o.1 u q) (kR he (e:=y) o.2 v q2) h
 |.above x y,o,r,h=>by
  simp only[aS]at h;cases q:aS env x with|none=>rw[q]at h;cases h|some u=>
   rw[q]at h;cases q2:aS env y with|none=>rw[q2]at h;cases h|some v=>rw[q2]at h;exact GF (kR he (e:=x) o.1 u q) (kR he (e:=y) o.2 v q2) h
 |.across n e,o,r,h=>by
  simp only[aS]at h;cases q:aS env e with|none=>rw[q]at h;cases h|some x=>rw[q]at h;exact GH (kR he (e:=e) o.2.2 x q) h
 |.down n e,o,r,h=>by
  simp only[aS]at h;cases q:aS env e with|none=>rw[q]at h;cases h|some x=>rw[q]at h;exact GI (kR he (e:=e) o.2.2 x q) h
theorem GJ(O:cb l):∀f k r,eV l f k=some r->eB r
 |0,k,r,h=>by cases h
 |f+1,k,r,h=>by
  have h:(match at_ l k with|none=>none|some e=>aS (eV l f) e)=some r:=h;cases q:at_ l k with|none=>rw[q]at h;cases h|some e=>
   rw[q]at h;exact kR (λj b hb=>GJ O f j b hb) (O.ok k e q) r h
def Qo(O:cb l)(h:bM l k=some r):eB r:=GJ O 8 k r h
structure aZ(r:Rows):Prop where
 good:Good r
 ok:eB r
def jW(O:cb l)(h:bM l k=some r):aZ r:=#[zG O h,Qo O h]
def aZ.turned(h:aZ r):aZ (dS r):=#[zo h.good,GB h.ok]
def aZ.mirrored(h:aZ r):aZ (dU r):=#[vF h.good,GC h.ok]
def aZ.beside(A:aZ a)(B:aZ b)(h:fc a b=some c):aZ c:=#[(FG A.good B.good h).1,GD A.ok B.ok h]
def aZ.above(A:aZ a)(B:aZ b)(h:ff a b=some c):aZ c:=#[(FI A.good B.good h).1,GF A.ok B.ok h]
def aZ.Qp(A:aZ a)(hn:1<=n)(h:fI a n=some c):aZ c:=#[FO A.good hn h,GH A.ok h]
def aZ.Qq(A:aZ a)(hn:1<=n)(h:fJ a n=some c):aZ c:=#[FR A.good hn h,GI A.ok h]
def Qr(h:okPatch p=true):aZ [[p]]:=#[F9 p,by
 intro row hr q hq;simp at hr;subst hr;simp at hq;subst hq;exact h]
theorem Qs(he:∀k b,env k=some b->aZ b){k:Tok}(ho:k.Ok){st st':List Rows}(hs:∀r∈st,aZ r)(h:c4 env k st=some st'):∀r∈st',aZ r:=by
 have cons:∀ {x:Rows} {t:List Rows},aZ x->(∀r∈t,aZ r)->∀r∈x::t,aZ r:=λhx ht r hr=>by
  rcases X5.mp hr with rfl|hr
  .exact hx
  .exact ht r hr
 cases k with
 |patch p=>cases h;exact cons (Qr ho) hs
 |name j=>
  simp only[c4]at h;cases q:env j with|none=>rw[q]at h;cases h|some b=>rw[q]at h;cases h;exact cons (he j _ q) hs
 |turn=>cases st with
  |nil=>cases h
  |cons x t=>cases h;exact cons (hs x (by simp)).turned λr hr=>hs r (by simp[hr])
 |mirror=>cases st with
  |nil=>cases h
  |cons x t=>cases h;exact cons (hs x (by simp)).mirrored λr hr=>hs r (by simp[hr])
 |beside=>match st,h,hs with
  |x::y::t,h,hs=>
   simp only[c4]at h;cases q:fc x y with|none=>rw[q]at h;cases h|some b=>rw[q]at h;cases h;exact cons ((hs x (by simp)).beside (hs y (by simp)) q) λr hr=>hs r (by simp[hr])
 |above=>match st,h,hs with
  |x::y::t,h,hs=>
   simp only[c4]at h;cases q:ff x y with|none=>rw[q]at h;cases h|some b=>rw[q]at h;cases h;exact cons ((hs x (by simp)).above (hs y (by simp)) q) λr hr=>hs r (by simp[hr])
 |across n=>match st,h,hs with
  |x::t,h,hs=>
   simp only[c4]at h;cases q:fI x n with|none=>rw[q]at h;cases h|some b=>rw[q]at h;cases h;exact cons ((hs x (by simp)).Qp (by have:=ho.1;lia) q) λr hr=>hs r (by simp[hr])
 |down n=>match st,h,hs with
  |x::t,h,hs=>
   simp only[c4]at h;cases q:fJ x n with|none=>rw[q]at h;cases h|some b=>rw[q]at h;cases h;exact cons ((hs x (by simp)).Qq (by have:=ho.1;lia) q) λr hr=>hs r (by simp[hr])
theorem GK(he:∀k b,env k=some b->aZ b):∀ {T:List Tok} {st:List Rows},(∀k∈T,k.Ok)->run env T=some st->∀r∈st,aZ r
 |[],st,_,e=>by cases e;simp
 |k::T,st,hk,e=>by
  unfold run at e;cases q:run env T with|none=>rw[q]at e;cases e|some s=>
   rw[q]at e;exact Qs he (hk k (by simp)) (GK he (λx hx=>hk x (by simp[hx])) q) e
end Qm
namespace Qm
open KyqNeutral (step start asked asked1 may S)
def GL:∀k<26,k=0\/k=1\/k=2\/k=3\/k=4\/k=5\/k=6\/k=7\/k=8\/k=9\/k=10\/k=11\/k=12\/k=13\/k=14\/k=15\/k=16\/k=17\/k=18\/k=19\/k=20\/k=21\/k=22\/k=23\/k=24\/k=25:=by decide
theorem vQ{p:Int}{n k:Nat}(h:PyKyq.shape p=some (n,k)):0<=p/\p<=25/\(p=1->n=1/\k=1)/\(p≠1->k=0)/\([3,1,1,0,0,1,1,1,1,1,1,2,1,1,1,2,1,0,0,1,0,1,0,0,0,0]:List Nat)[p.toNat]?=some n:=by
 have r:0<=p/\p<=25:=by
  apply Classical.byContradiction;intro z;unfold PyKyq.shape at h
  repeat rw[if_neg (by lia)]at h
  cases h
 obtain⟨q,rfl⟩:∃q:Nat,p=(q:Int):=#[p.toNat,by lia]
 have all:∀q:Nat,q<26->∀x,PyKyq.shape (q:Int)=some x->(q=1->x.1=1/\x.2=1)/\(q≠1->x.2=0)/\([3,1,1,0,0,1,1,1,1,1,1,2,1,1,1,2,1,0,0,1,0,1,0,0,0,0]:List Nat)[q]?=some x.1:=by
  intro q hq x hx;have Qt:∀q:Fin 26,(PyKyq.shape ((q.val:Nat):Int)).all (λx=>((q.val != 1)||(x.1==1&&x.2==1))&&((q.val==1)||x.2==0)&&(([3,1,1,0,0,1,1,1,1,1,1,2,1,1,1,2,1,0,0,1,0,1,0,0,0,0]:List Nat)[q.val]?==some x.1))=true:=by decide+kernel
  have e:=Qt #[q,hq];rw[hx]at e;simp only[Option.all_some,Ya,Y6,bne_iff_ne,beq_iff_eq]at e;exact#[λz=>e.1.1.resolve_left λn=>n z,λz=>e.1.2.resolve_left z,e.2]
 have a:=all q (by lia) _ h;exact#[by lia,by lia,λz=>a.1 (by lia),λz=>a.2.1 (by lia),by rw[Yd];exact a.2.2]
theorem Qu{c:List (List Int)}(ok:PyFlat.okCall PyKyq.shape c):PyKyq.whole c=c:=by
 obtain⟨p,t,u,rfl,sp⟩:=ok;have r:=vQ sp;obtain⟨k,rfl⟩:∃k:Nat,p=(k:Nat):=#[p.toNat,by lia]
 clear sp;rcases GL k (by lia)with rfl|rfl|rfl|rfl|rfl|rfl|rfl|rfl|rfl|rfl|rfl|rfl|rfl|rfl|rfl|rfl|rfl|rfl|rfl|rfl|rfl|rfl|rfl|rfl|rfl|rfl
 all_goals (clear r;rcases t with _|⟨a,_|⟨b,_|⟨c,_|⟨d,t⟩⟩⟩⟩<;>rcases u with _|⟨r,_|⟨s,u⟩⟩<;>rfl)
structure Line(l:List Int)(cs:List (List (List Int))):Prop where
 put:l=PyFlat.put cs
 ok:∀c∈cs,PyFlat.okCall PyKyq.shape c
 one:∀c∈cs,asked1 c=true
 may:may start cs=true
 len:cs.length<=300
 Qv:PyKyq.answers l=PyFlat.told (PyFlat.played step start cs)
def ve{l:List Int}(h:PyKyq.answers_asked l=true):∃cs,Line l cs:=by
 unfold PyKyq.answers_asked at h;cases e:PyKyq.calls l with|none=>rw[e]at h;cases h|some zK=>
  rw[e]at h;have h:(PyFlat.atMost 300 zK&&asked zK)=true:=h;rw[Ya]at h;have e2:=e;unfold PyKyq.calls at e2;cases q:PyFlat.calls PyKyq.shape l.length l with|none=>rw[q]at e2;cases e2|some cs=>
   rw[q]at e2;have e3:cs.map PyKyq.whole=zK:=XW e2;have e4:cs.map PyKyq.whole=cs:=(Zl (g:=id) λc hc=>Qu ((PyFlat.put_calls _ _ _ q).2 c hc)).trans (List.map_id _);rw[e4]at e3;subst e3;have a:=h.2;unfold asked at a;rw[Ya,Ya,Ya]at a;have p:=PyFlat.put_calls _ _ _ q;refine#[cs,p.1,p.2,λc hc=>YZ.mp a.1.2 c hc,a.2,Yi a.1.1.2,?_];unfold PyKyq.answers;rw[e]
end Qm
namespace Qm
open Kyq1 Kyq2
variable{q:Kyq2.Rect}{h i w:Nat}{b:Block}
def cW:Plan->Nat
 |.piece=>0
 |.upright _ _ _=>1
 |.level _ _ _=>2
def fh:Plan->Nat
 |.piece=>0
 |.upright k _ _=>k
 |.level k _ _=>k
def gz(x:Best):List Nat:=[x.n,x.long,cW x.plan,fh x.plan]
def mz(look:Kyq2.Rect->Best)(q:Kyq2.Rect)(k:Nat):Best:=#[(look (left q k)).n+(look (right q k)).n+1,(look (left q k)).long+(look (right q k)).long+q.h,.upright k (look (left q k)).plan (look (right q k)).plan]
def mB(look:Kyq2.Rect->Best)(q:Kyq2.Rect)(k:Nat):Best:=#[(look (upper q k)).n+(look (lower q k)).n+1,(look (upper q k)).long+(look (lower q k)).long+q.w,.level k (look (upper q k)).plan (look (lower q k)).plan]
def cands(look:Kyq2.Rect->Best)(q:Kyq2.Rect):List Best:=((List.range (q.w-1)).map λi=>mz look q (i+1))++(List.range (q.h-1)).map λi=>mB look q (i+1)
def GN(b:Block)(look:Kyq2.Rect->Best)(q:Kyq2.Rect):pS b look q=if piece b q then nothing else match cands look q with|[]=>nothing|x::l=>first x l:=rfl
theorem GO:∀(l:List Best) (x y:Best),first x (l++[y])=if better y (first x l)then y else first x l
 |[],x,y=>rfl
 |z::l,x,y=>GO l (if better z x then z else x) y
def jq:List Nat->List Nat->Bool
 |x::xs,y::ys=>if x=y then jq xs ys else decide (x<y)
 |[],_::_=>true
 |_,[]=>false
theorem Qw{x y:Best}(h:cW x.plan<cW y.plan\/(cW x.plan=cW y.plan/\fh x.plan<fh y.plan)):jq (gz y) (gz x)=better y x:=by
 unfold gz better jq;by_cases e1:y.n=x.n
 .rw[if_pos e1];unfold jq;by_cases e2:y.long=x.long
  .rw[if_pos e2,e1,e2];unfold jq;rcases h with h|⟨h,h2⟩
   .rw[if_neg (by lia)];simp
    lia
   .rw[if_pos h.symm];unfold jq;rw[if_neg (by lia)];simp
    lia
  .rw[if_neg e2,e1];simp
 .rw[if_neg e1];simp[e1]
def kT(bt:Nat->Nat->Bool):Nat->Nat
 |0=>0
 |k+1=>if bt (k+1) (kT bt k)then k+1 else kT bt k
theorem GP(bt:Nat->Nat->Bool):∀k,kT bt k<=k
 |0=>X0 _
 |k+1=>by
  unfold kT;split
  .exact X0 _
  .exact aaq (GP bt k)
theorem GQ{L:List Best}{x:Best}{l:List Best}(hL:L=x::l)(inc:∀(i j:Nat) (a c:Best),i<j->L[i]?=some a->L[j]?=some c->cW a.plan<cW c.plan\/(cW a.plan=cW c.plan/\fh a.plan<fh c.plan))
  {bt:Nat->Nat->Bool} (hb:∀(i j:Nat) (a c:Best),L[i]?=some a->L[j]?=some c->bt i j=jq (gz a) (gz c)):∀m,m<L.length->L[kT bt m]?=some (first x (l.take m))
 |0,_=>by subst hL;rfl
 |m+1,h=>by
  have ih:=GQ hL inc hb m (by lia);obtain⟨y,hy⟩:∃y,l[m]?=some y:=#[_,XT (by subst hL;simpa using h)]
  have hy':L[m+1]?=some y:=by subst hL;simpa using hy
  have e:l.take (m+1)=l.take m++[y]:=by rw[List.take_add_one,hy];rfl
  have lt:=inc _ (m+1) _ y (Nat.lt_succ_of_le (GP bt m)) ih hy';unfold kT;rw[e,GO,hb _ _ _ _ hy' ih,Qw lt];split
  .exact hy'
  .exact ih
theorem zL{look:Kyq2.Rect->Best}{a:Best}(h:(cands look q)[i]?=some a):(i<q.w-1/\a=mz look q (i+1))\/(q.w-1<=i/\i-(q.w-1)<q.h-1/\a=mB look q (i-(q.w-1)+1)):=by
 unfold cands at h;by_cases hi:i<q.w-1
 .rw[Zd (by simpa using hi),X1,Yn hi]at h;exact .inl #[hi,(XW h).symm]
 .rw[YH (by simpa using hi),X1,XX,Zq]at h;by_cases h2:i-(q.w-1)<q.h-1
  .rw[Yn h2]at h;exact .inr #[by lia,h2,(XW h).symm]
  .rw[Yu (by simp;lia)]at h;cases h
theorem Qx(look:Kyq2.Rect->Best)(q:Kyq2.Rect):∀(i j:Nat) (a c:Best),i<j->(cands look q)[i]?=some a->(cands look q)[j]?=some c->cW a.plan<cW c.plan\/(cW a.plan=cW c.plan/\fh a.plan<fh c.plan):=λi j a c h ha hc=>by
 rcases zL ha with⟨_,rfl⟩|⟨_,_,rfl⟩<;>rcases zL hc with⟨_,rfl⟩|⟨_,_,rfl⟩<;>simp[mz,mB,cW,fh]<;>lia
def zM(look:Kyq2.Rect->Best)(q:Kyq2.Rect):(cands look q).length=(q.w-1)+(q.h-1):=by simp[cands]
theorem GR(h:inside b q)(n:piece b q=false):0<(q.w-1)+(q.h-1):=by
 obtain⟨h1,h2,_⟩:=h;unfold piece at n;simp at n
 lia
theorem GS(h:inside b q)(n:piece b q=false){bt:Nat->Nat->Bool}
  (hb:∀(i j:Nat) (a c:Best),(cands (bestAt b) q)[i]?=some a->(cands (bestAt b) q)[j]?=some c->bt i j=jq (gz a) (gz c)):(cands (bestAt b) q)[kT bt ((cands (bestAt b) q).length-1)]?=some (bestAt b q):=by
 rw[GA h,GN,if_neg (by rw[n];decide)];have l:=GR h n;rw[<-zM (bestAt b)]at l;cases e:cands (bestAt b) q with|nil=>rw[e]at l;exact absurd l (by simp)|cons x t=>
  have:=GQ e (Qx _ _) hb ((cands (bestAt b) q).length-1) (by lia);rw[e]at this;rw[this];simp
def su(h:inside b q)(n:piece b q=true):bestAt b q=nothing:=by
 rw[GA h,GN,if_pos n]
theorem sv(h:inside b q)(n:piece b q=false):(∃k,1<=k/\k<q.w/\bestAt b q=mz (bestAt b) q k)\/(∃k,1<=k/\k<q.h/\bestAt b q=mB (bestAt b) q k):=by
 have p:=GS h n (bt:=λi j=>match(cands (bestAt b) q)[i]?,(cands (bestAt b) q)[j]? with|some a,some c=>jq (gz a) (gz c)|_,_=>false) (λi j a c ha hc=>by simp only[ha,hc]);rcases zL p with⟨h1,e⟩|⟨_,h1,e⟩
 .exact .inl #[_,Nat.le_add_left 1 _,by lia,e]
 .exact .inr #[_,Nat.le_add_left 1 _,by lia,e]
theorem pY:∀(m:Nat) (q:Kyq2.Rect),q.h+q.w<=m->inside b q->(bestAt b q).n=seams (bestAt b q).plan/\fits b (bestAt b q).plan q=true
 |0,q,hm,h=>by have:=h.1;lia
 |m+1,q,hm,h=>by
  cases n:piece b q with|true=>rw[su h n];exact#[rfl,n]|false=>
   rcases sv h n with⟨k,h1,h2,e⟩|⟨k,h1,h2,e⟩<;>rw[e]
   .obtain⟨a1,a2⟩:=pY m (left q k) (by show q.h+k<=m;lia) (pU h h1 h2);obtain⟨c1,c2⟩:=pY m (right q k) (by show q.h+(q.w-k)<=m;lia) (pV h h1 h2);simp only[mz,seams,fits,a1,c1,a2,c2];simp[h1,h2]
   .obtain⟨a1,a2⟩:=pY m (upper q k) (by show k+q.w<=m;lia) (pW h h1 h2);obtain⟨c1,c2⟩:=pY m (lower q k) (by show q.h-k+q.w<=m;lia) (pX h h1 h2);simp only[mB,seams,fits,a1,c1,a2,c2];simp[h1,h2]
def Qy(h:inside b q):(bestAt b q).n=seams (bestAt b q).plan:=(pY _ q (X0 _) h).1
def vR(h:inside b q):fits b (bestAt b q).plan q=true:=(pY _ q (X0 _) h).2
def eW(h w:Nat):List Kyq2.Rect:=(List.range h).flatMap λr=>(List.range w).flatMap λc=>(List.range (h-r)).flatMap λt=>(List.range (w-c)).map λl=>#[t,l,r+1,c+1]
theorem nQ:q∈eW h w↔1<=q.h/\1<=q.w/\q.r+q.h<=h/\q.c+q.w<=w:=by
 unfold eW;simp only[ZL,Yp,Yb];constructor
 .rintro⟨r,hr,c,hc,t,ht,l,hl,rfl⟩;simp only
  lia
 .intro⟨h1,h2,h3,h4⟩;refine#[q.h-1,by lia,q.w-1,by lia,q.r,by lia,q.c,by lia,?_];cases q;simp at h1 h2 ⊢
  lia
def GU(p q:Kyq2.Rect):Prop:=p.h<q.h\/(p.h=q.h/\p.w<=q.w)
theorem zN{α β:Type}{R:β->β->Prop}{f:α->List β}:∀ {l:List α},(∀a∈l,(f a).Pairwise R)->l.Pairwise (λa c=>∀x∈f a,∀y∈f c,R x y)->(l.flatMap f).Pairwise R
 |[],_,_=>by simp
 |a::l,h1,h2=>by
  rw[Zb]at h2;rw[Yy,List.pairwise_append];refine#[h1 a (by simp),zN (λc hc=>h1 c (by simp[hc])) h2.2,λx hx y hy=>?_];obtain⟨c,hc,hy⟩:=ZL.mp hy;exact h2.1 c hc x hx y hy
theorem Qz(h w:Nat):(eW h w).Pairwise GU:=by
 unfold eW;refine zN (λr _=>zN (λc _=>?_) ?_) ?_
 .rw[List.pairwise_iff_forall_sublist];intro x y s;have hx:=s.subset (Ym ..);have hy:=s.subset (X6 _ (Ym ..));simp only[ZL,Yp,Yb]at hx hy;obtain⟨_,_,_,_,rfl⟩:=hx;obtain⟨_,_,_,_,rfl⟩:=hy;exact .inr #[rfl,X0 _]
 .refine List.Pairwise.imp (λ{c d} hcd x hx y hy=>?_) (List.pairwise_lt_range (n:=w));simp only[ZL,Yp,Yb]at hx hy;obtain⟨_,_,_,_,rfl⟩:=hx;obtain⟨_,_,_,_,rfl⟩:=hy;exact .inr #[rfl,by show c+1<=d+1;lia]
 .refine List.Pairwise.imp (λ{c d} hcd x hx y hy=>?_) (List.pairwise_lt_range (n:=h));simp only[ZL,Yp,Yb]at hx hy;obtain⟨_,_,_,_,_,_,rfl⟩:=hx;obtain⟨_,_,_,_,_,_,rfl⟩:=hy;exact .inl (by show c+1<d+1;lia)
theorem vS{p:Kyq2.Rect}(hq:(eW h w)[i]?=some q)(hp:p∈eW h w)(lt:p.h<q.h\/(p.h=q.h/\p.w<q.w)):p∈(eW h w).take i:=by
 obtain⟨j,hj,e⟩:=Y8 hp;have⟨hi,e2⟩:=XZ.mp hq;by_cases c:j<i
 .rw[List.mem_take_iff_getElem];exact#[j,by lia,e]
 .exfalso;by_cases c2:j=i
  .subst c2;rw[e]at e2;subst e2
   lia
  .have:=(aas.mp (Qz h w)) i j hi hj (by lia);rw[e,e2]at this;unfold GU at this
   lia
theorem QA:∀h,h<=6->∀w,w<=6->(eW h w).length<=441:=by
 have a:∀h:Fin 7,∀w:Fin 7,(eW h w).length<=441:=by decide+kernel
 exact λh hh w hw=>a #[h,by lia] #[w,by lia]
end Qm
namespace Qm
open Kyq1 Kyq2
variable{b:Block}{q q0:Kyq2.Rect}{en nu:List Nat}{pc st:List Kyq2.Rect}{i:Nat}{w:Kyq.Work}
def cX:Plan->Nat->List Nat
 |.piece,_=>[]
 |.upright _ x y,o=>(o+(seams x+seams y+1))::(cX x (o+1)++cX y (o+1+seams x))
 |.level _ x y,o=>(o+(seams x+seams y+1))::(cX x (o+1)++cX y (o+1+seams x))
theorem jX:∀(p:Plan) (o:Nat),(cX p o).length=seams p
 |.piece,_=>rfl
 |.upright _ x y,o=>by simp[cX,seams,jX x,jX y]
 |.level _ x y,o=>by simp[cX,seams,jX x,jX y]
theorem mC:∀(p:Plan) (q:Kyq2.Rect),(pieces p q).length=seams p+1
 |.piece,_=>rfl
 |.upright _ x y,q=>by simp[pieces,seams,mC x,mC y];lia
 |.level _ x y,q=>by simp[pieces,seams,mC x,mC y];lia
theorem nR:∀(p:Plan),(numbers p).length=3*seams p+1
 |.piece=>rfl
 |.upright _ x y=>by simp[numbers,seams,nR x,nR y];lia
 |.level _ x y=>by simp[numbers,seams,nR x,nR y];lia
def pl(b:Block)(q:Kyq2.Rect):Plan:=(bestAt b q).plan
def nT(b:Block):Nat->List Kyq2.Rect->List Nat
 |_,[]=>[]
 |o,q::L=>cX (pl b q) o++nT b (o+seams (pl b q)) L
structure Run(b:Block)(q0:Kyq2.Rect)(st:List Kyq2.Rect)(nu:List Nat)(pc:List Kyq2.Rect)(en:List Nat):Prop where
 nums:nu++(st.flatMap λq=>numbers (pl b q))=numbers (pl b q0)
 kU:pc++(st.flatMap λq=>pieces (pl b q) q)=pieces (pl b q0) q0
 ends:en++nT b en.length st=cX (pl b q0) 0
 ins:∀q∈st,inside b q
def work(b:Block)(st:List Kyq2.Rect):Nat:=(st.map λq=>2*seams (pl b q)+1).sum
def Run.init(h:inside b q0):Run b q0 [q0] [] [] []:=#[by simp,by simp,by simp[nT],by simpa using h]
def Run.done(h:Run b q0 [] nu pc en):nu=numbers (pl b q0)/\pc=pieces (pl b q0) q0/\en=cX (pl b q0) 0:=
 #[by simpa using h.nums,by simpa using h.kU,by simpa[nT]using h.ends]
theorem Run.cM(h:Run b q0 st nu pc en):nu.length<=3*seams (pl b q0)+1/\pc.length+st.length<=seams (pl b q0)+1/\en.length<=seams (pl b q0):=by
 have h1:=congrArg List.length h.nums;have h2:=congrArg List.length h.kU;have h3:=congrArg List.length h.ends;rw[XY,nR]at h1;rw[XY,mC]at h2;rw[XY,jX]at h3;have h4:st.length<=(st.flatMap λq=>pieces (pl b q) q).length:=by
  clear h h1 h2 h3
  induction st with|nil=>simp|cons q st ih=>
   rw[Yy,XY,mC,X2]
   lia
 lia
def GV(h:inside b q):cW (pl b q)=0↔piece b q=true:=by
 cases n:piece b q with|true=>unfold pl;rw[su h n];exact#[λ_=>rfl,λ_=>rfl]|false=>rcases sv h n with⟨k,_,_,e⟩|⟨k,_,_,e⟩<;>unfold pl<;>rw[e]<;>simp[mz,mB,cW]
theorem Run.piece(h:Run b q0 (q::st) nu pc en)(n:Kyq2.piece b q=true):Run b q0 st (nu++[0]) (pc++[q]) en/\work b st<work b (q::st):=by
 have e:pl b q=.piece:=by unfold pl;rw[su (h.ins q (by simp)) n];rfl
 refine#[#[?_,?_,?_,λp hp=>h.ins p (by simp[hp])],by unfold work;simp]
 .rw[<-h.nums,Yy,e];simp[numbers]
 .rw[<-h.kU,Yy,e];simp[pieces]
 .rw[<-h.ends];show _=en++(cX (pl b q) _++nT b (_+seams (pl b q)) st);rw[e];rfl
def fL(q:Kyq2.Rect)(way k:Nat):Kyq2.Rect:=if way=1 then left q k else upper q k
def fM(q:Kyq2.Rect)(way k:Nat):Kyq2.Rect:=if way=1 then right q k else lower q k
theorem Run.seam(h:Run b q0 (q::st) nu pc en)(n:Kyq2.piece b q=false):
  Run b q0 (fL q (cW (pl b q)) (fh (pl b q))::fM q (cW (pl b q)) (fh (pl b q))::st) (nu++[cW (pl b q),fh (pl b q)]) pc (en++[en.length+(bestAt b q).n])/\
  work b (fL q (cW (pl b q)) (fh (pl b q))::fM q (cW (pl b q)) (fh (pl b q))::st)<work b (q::st):=by
 have hq:=h.ins q (by simp);rw[Qy hq,<-pl];rcases sv hq n with⟨k,h1,h2,e⟩|⟨k,h1,h2,e⟩
 .have e':pl b q=.upright k (pl b (left q k)) (pl b (right q k)):=by unfold pl;rw[e];rfl
  have f1:fL q 1 k=left q k:=if_pos rfl;have f2:fM q 1 k=right q k:=if_pos rfl;simp only[e',cW,fh,seams,f1,f2];refine#[#[?_,?_,?_,λp hp=>?_],by simp[work,e',seams];lia]
  .rw[<-h.nums];simp[e',numbers]
  .rw[<-h.kU];simp[e',pieces]
  .rw[<-h.ends];simp only[nT,e',cX,seams,XY,YE];simp[ZN,aaw,Nat.add_left_comm]
  .simp at hp;rcases hp with rfl|rfl|hp
   .exact pU hq h1 h2
   .exact pV hq h1 h2
   .exact h.ins p (by simp[hp])
 .have e':pl b q=.level k (pl b (upper q k)) (pl b (lower q k)):=by unfold pl;rw[e];rfl
  have f1:fL q 2 k=upper q k:=if_neg (by decide);have f2:fM q 2 k=lower q k:=if_neg (by decide);simp only[e',cW,fh,seams,f1,f2];refine#[#[?_,?_,?_,λp hp=>?_],by simp[work,e',seams];lia]
  .rw[<-h.nums];simp[e',numbers]
  .rw[<-h.kU];simp[e',pieces]
  .rw[<-h.ends];simp only[nT,e',cX,seams,XY,YE];simp[ZN,aaw,Nat.add_left_comm]
  .simp at hp;rcases hp with rfl|rfl|hp
   .exact pW hq h1 h2
   .exact pX hq h1 h2
   .exact h.ins p (by simp[hp])
open Kyq (sub)
def two:Plan->Option (Plan×Plan)
 |.piece=>none
 |.upright _ x y=>some (x,y)
 |.level _ x y=>some (x,y)
theorem GW(p:Plan):p=.piece\/aX λx y=>two p=some (x,y)/\seams p=seams x+seams y+1/\(∀o,cX p o=(o+(seams x+seams y+1))::(cX x (o+1)++cX y (o+1+seams x)))/\
  (∀i,sub p i=if i=0 then some (x,y)else if i<=seams x then sub x (i-1)else sub y (i-1-seams x))/\sizeOf x<sizeOf p/\sizeOf y<sizeOf p:=by
 cases p with|piece=>exact .inl rfl|upright k x y=>exact .inr #[x,y,rfl,rfl,λ_=>rfl,λ_=>rfl,by simp;lia,by simp;lia]|level k x y=>exact .inr #[x,y,rfl,rfl,λ_=>rfl,λ_=>rfl,by simp;lia,by simp;lia]
theorem zO:∀(m:Nat) (p:Plan),sizeOf p<m->∀i o,i<seams p->aX λx y=>sub p i=some (x,y)/\(cX p o)[i]?=some (o+(i+1+seams x+seams y))/\i+1+seams x+seams y<=seams p/\
  (∀j,j<seams x->sub p (i+1+j)=sub x j)/\(∀j,j<seams y->sub p (i+1+seams x+j)=sub y j)
 |0,_,h,_,_,_=>by lia
 |m+1,p,h,i,o,hi=>by
  rcases GW p with rfl|⟨x,y,_,es,ee,eb,sx,sy⟩
  .cases hi
  .rw[ee,eb,es];by_cases h0:i=0
   .subst h0;refine#[x,y,if_pos rfl,?_,by lia,λj hj=>?_,λj hj=>?_]
    .simp;lia
    .rw[eb,if_neg (by lia),if_pos (by lia)];congr 1;lia
    .rw[eb,if_neg (by lia),if_neg (by lia)];congr 1;lia
   .rw[if_neg h0];obtain⟨i',rfl⟩:∃i',i=i'+1:=#[i-1,by lia]
    by_cases h1:i'+1<=seams x
    .rw[if_pos h1];obtain⟨u,v,a1,a2,a3,a4,a5⟩:=zO m x (by lia) i' (o+1) (by lia);refine#[u,v,a1,?_,by lia,λj hj=>?_,λj hj=>?_]
     .rw[ZV,Zd (by rw[jX];lia),a2];congr 1;lia
     .rw[eb,if_neg (by lia),if_pos (by lia),<-a4 j hj];congr 1;lia
     .rw[eb,if_neg (by lia),if_pos (by lia),<-a5 j hj];congr 1;lia
    .rw[if_neg h1];obtain⟨u,v,a1,a2,a3,a4,a5⟩:=zO m y (by lia) (i'-seams x) (o+1+seams x) (by lia);refine#[u,v,by rw[<-a1];congr 1,?_,by lia,λj hj=>?_,λj hj=>?_]
     .rw[ZV,YH (by rw[jX];lia),jX,a2];congr 1;lia
     .rw[eb,if_neg (by lia),if_neg (by lia),<-a4 j hj];congr 1;lia
     .rw[eb,if_neg (by lia),if_neg (by lia),<-a5 j hj];congr 1;lia
theorem GX(p:Plan)(o:Nat)(h:i<seams p):aX λx y=>sub p i=some (x,y)/\(cX p o)[i]?=some (o+(i+1+seams x+seams y))/\i+1+seams x+seams y<=seams p/\
  (∀j,j<seams x->sub p (i+1+j)=sub x j)/\(∀j,j<seams y->sub p (i+1+seams x+j)=sub y j):=zO (sizeOf p+1) p (by lia) i o h
structure f_(w:Kyq.Work):Prop where
 nd:w.sewn.Nodup
 lt:∀i∈w.sewn,i<seams w.plan
 cl:∀i∈w.sewn,∀x y,sub w.plan i=some (x,y)->∀j,j<seams x+seams y->i+1+j∈w.sewn
def f_.nil(b:Block)(p:Plan):f_ #[b,p,[]]:=#[aaI,(by simp),(by simp)]
theorem f_.whole(W:f_ w){x:Plan}{c:Nat}(hs:∀j,j<seams x->sub w.plan (c+j)=sub x j)(h:c∈w.sewn):∀j,j<seams x->c+j∈w.sewn:=λj hj=>by
 cases j with|zero=>exact h|succ j=>
  rcases GW x with rfl|⟨u,v,_,es,_,eb,_⟩
  .cases hj
  .have:=W.cl c h u v (by have:=hs 0 (by lia);rw[ZG]at this;rw[this,eb,if_pos rfl]) j (by lia);rw[<-ZN,Nat.add_right_comm];exact this
theorem GY(W:f_ w)(hi:i<seams w.plan){x y:Plan}(hs:sub w.plan i=some (x,y)):Kyq.ready w i=true↔∀j,j<seams x+seams y->i+1+j∈w.sewn:=by
 obtain⟨x',y',a1,_,a3,a4,a5⟩:=GX w.plan 0 hi;rw[hs]at a1;cases a1;unfold Kyq.ready;rw[hs];simp only[Ya,Y6,beq_iff_eq,YV];constructor
 .intro⟨h1,h2⟩ j hj;by_cases c:j<seams x
  .exact W.whole a4 (h1.resolve_left (by lia)) j c
  .have:=W.whole a5 (h2.resolve_left (by lia)) (j-seams x) (by lia);rwa[show i+1+seams x+(j-seams x)=i+1+j by lia]at this
 .intro h;refine#[?_,?_]
  .by_cases c:seams x=0
   .exact .inl c
   .exact .inr (h 0 (by lia))
  .by_cases c:seams y=0
   .exact .inl c
   .exact .inr (h (seams x) (by lia))
def f_.fN(W:f_ w)(hi:i<seams w.plan)(hn:i∉w.sewn)(hr:Kyq.ready w i=true):f_ {w with sewn:=i::w.sewn}:=by
 refine#[Y5.mpr #[hn,W.nd],λj hj=>?_,λk hk x y e j hj=>?_]
 .rcases X5.mp hj with rfl|hj
  .exact hi
  .exact W.lt j hj
 .refine X6 _ ?_;rcases X5.mp hk with rfl|hk
  .exact(GY W hi e).mp hr j hj
  .exact W.cl k hk x y e j hj
def cF(w:Kyq.Work):List Bool:=(List.range (seams w.plan)).map λi=>w.sewn.contains i
def mD(w:Kyq.Work):(cF w).length=seams w.plan:=by simp[cF]
def mE(w:Kyq.Work)(h:i<seams w.plan):(cF w)[i]?=some (w.sewn.contains i):=by
 unfold cF;rw[X1,Yn h];rfl
theorem QB(w:Kyq.Work)(h:i<seams w.plan):(cF w).set i true=cF {w with sewn:=i::w.sewn}:=by
 apply Z1;intro j;rw[Zi];by_cases c:i=j
 .subst c;rw[if_pos rfl,if_pos (by rw[mD];exact h),mE {w with sewn:=i::w.sewn} h];simp
 .rw[if_neg c];by_cases c2:j<seams w.plan
  .rw[mE w c2,mE {w with sewn:=i::w.sewn} c2];simp[List.contains_cons,Ne.symm c]
  .rw[Yu (by rw[mD];lia),Yu (by rw[mD];show seams w.plan<=j;lia)]
def zP(W:f_ w):(cF w).count true=w.sewn.length:=by
 unfold cF;rw[List.count_eq_countP,List.countP_map,List.countP_eq_length_filter];refine List.Perm.length_eq ((List.perm_ext_iff_of_nodup (List.nodup_range.filter _) W.nd).mpr λa=>?_);simp only[YI,Yb,Function.comp];constructor
 .intro⟨_,h⟩;simpa using h
 .intro h;exact#[W.lt a h,by simpa using h]
theorem GZ(l:List Bool):l.count true+l.count false=l.length:=by
 induction l with|nil=>rfl|cons a l ih=>cases a<;>simp<;>lia
theorem QC(W:f_ w):(cF w).count false=Kyq.left w:=by
 have:=GZ (cF w);rw[zP W,mD]at this;unfold Kyq.left
 lia
theorem QD(W:f_ w):w.sewn.length<=seams w.plan:=by
 have:=GZ (cF w);rw[zP W,mD]at this
 lia
theorem QE(W:f_ w){e:Nat}(hi:i<seams w.plan)(he:(cX w.plan 0)[i]?=some e):(((cF w).drop (i+1)).take (e-(i+1))).all id=Kyq.ready w i/\i+1<=e/\e<=seams w.plan:=by
 obtain⟨x,y,a1,a2,a3,a4,a5⟩:=GX w.plan 0 hi;rw[a2]at he;have he:=XW he;refine#[?_,by lia,by lia];rw[Y4,GY W hi a1,YZ];constructor
 .intro h j hj;have g:=mE w (i:=i+1+j) (by lia);have:=h (w.sewn.contains (i+1+j)) (X_ (i:=j) (by rw[Zy,if_pos (by lia),Zn,g]));simpa using this
 .intro h v hv;obtain⟨j,hj⟩:=List.getElem?_of_mem hv;rw[Zy]at hj;split at hj
  .rw[Zn,mE w (by lia)]at hj;cases hj;simpa using h j (by lia)
  .cases hj
end Qm
namespace Qm
open Kyq1 Kyq2
variable{q:Kyq2.Rect}{k:Nat}{b:Block}{r:Rows}{a:Nat×Nat}{l:List (Nat×Nat)}
def G0(g:Nat->Nat)(a c:Nat):((List.range (a+c)).map g).sum=((List.range a).map g).sum+((List.range c).map λj=>g (a+j)).sum:=by
 rw[List.range_add,Zz,List.sum_append,Y1];rfl
theorem sum_add(g h:Nat->Nat)(l:List Nat):(l.map λi=>g i+h i).sum=(l.map g).sum+(l.map h).sum:=by
 induction l with|nil=>rfl|cons a l ih=>simp[ih];lia
def jY(b:Block)(f:Patch->Bool)(r c w:Nat):Nat:=((List.range w).map λj=>if f (cell b r (c+j))then 1 else 0).sum
def gc(b:Block)(f:Patch->Bool)(q:Kyq2.Rect):Nat:=((List.range q.h).map λi=>jY b f (q.r+i) q.c q.w).sum
def QF(b:Block)(f:Patch->Bool)(h:k<=q.w):gc b f q=gc b f (left q k)+gc b f (right q k):=by
 unfold gc;show _=((List.range q.h).map λi=>jY b f (q.r+i) q.c k).sum+((List.range q.h).map λi=>jY b f (q.r+i) (q.c+k) (q.w-k)).sum;rw[<-sum_add]
 congr 2
 funext i
 unfold jY;have e:=G0 (λj=>if f (cell b (q.r+i) (q.c+j))then 1 else 0) k (q.w-k);rw[ZP h]at e;rw[e]
 congr 2
 simp only[ZN]
def QG(b:Block)(f:Patch->Bool)(h:k<=q.h):gc b f q=gc b f (upper q k)+gc b f (lower q k):=by
 unfold gc;show _=((List.range k).map λi=>jY b f (q.r+i) q.c q.w).sum+((List.range (q.h-k)).map λi=>jY b f (q.r+k+i) q.c q.w).sum;have e:=G0 (λi=>jY b f (q.r+i) q.c q.w) k (q.h-k);rw[ZP h]at e;rw[e];simp only[ZN]
theorem nV:∀ {p:Plan} {q:Kyq2.Rect},fits b p q=true->inside b q->∀r∈pieces p q,piece b r=true/\inside b r
 |.piece,q,h,hi,r,hr=>by
  simp[pieces]at hr;subst hr;exact#[h,hi]
 |.upright k x y,q,h,hi,r,hr=>by
  simp only[fits,Ya,Yx]at h;simp only[pieces,Yr]at hr;rcases hr with hr|hr
  .exact nV h.1.2 (pU hi h.1.1.1 h.1.1.2) r hr
  .exact nV h.2 (pV hi h.1.1.1 h.1.1.2) r hr
 |.level k x y,q,h,hi,r,hr=>by
  simp only[fits,Ya,Yx]at h;simp only[pieces,Yr]at hr;rcases hr with hr|hr
  .exact nV h.1.2 (pW hi h.1.1.1 h.1.1.2) r hr
  .exact nV h.2 (pX hi h.1.1.1 h.1.1.2) r hr
theorem sC(f:Patch->Bool):∀ {p:Plan} {q:Kyq2.Rect},fits b p q=true->gc b f q=((pieces p q).map (gc b f)).sum
 |.piece,q,_=>by simp[pieces]
 |.upright k x y,q,h=>by
  simp only[fits,Ya,Yx]at h;rw[QF b f (k:=k) (by lia),sC f h.1.2,sC f h.2];simp[pieces]
 |.level k x y,q,h=>by
  simp only[fits,Ya,Yx]at h;rw[QG b f (k:=k) (by lia),sC f h.1.2,sC f h.2];simp[pieces]
def G3{l:List Nat}(h:∀x∈l,x=0):l.sum=0:=by
 induction l with|nil=>rfl|cons a l ih=>rw[Zj,h a (by simp),ih λx hx=>h x (by simp[hx])]
def QH{f:Patch->Bool}(hf:∀p:Patch,p.d=0->f p=false){r:Kyq2.Rect}(hp:piece b r=true)(hi:inside b r):gc b f r=if f (cell b r.r r.c)then 1 else 0:=by
 unfold piece at hp;rcases Y6 _ _▸hp with h|h
 .simp only[Ya,beq_iff_eq]at h;unfold gc jY;rw[h.1,h.2];simp
 .have z:∀i j,i<r.h->j<r.w->f (cell b (r.r+i) (r.c+j))=false:=λi j h1 h2=>by
   unfold allOne at h;rw[YZ]at h;have h3:=h i (Yb.mpr h1);rw[YZ]at h3;have h4:=vG.mp (h3 j (Yb.mpr h2));rw[h4];exact hf _ rfl
  have e:gc b f r=0:=G3 λx hx=>by
   obtain⟨i,h1,rfl⟩:=Yp.mp hx;refine G3 λy hy=>?_;obtain⟨j,h2,rfl⟩:=Yp.mp hy;rw[z i j (Yb.mp h1) (Yb.mp h2)];rfl
  have z0:=z 0 0 hi.1 hi.2.1;rw[ZG,ZG]at z0;rw[e,z0];rfl
theorem G4{α:Type}(g:α->Bool)(l:List α):(l.map λr=>if g r then 1 else 0).sum=(l.filter g).length:=by
 induction l with|nil=>rfl|cons a l ih=>simp only[X7,Zj,ih,ZM];split<;>simp<;>lia
theorem G6{α:Type}(g:α->Nat)(d:α)(l:List α):(l.map g).sum=((List.range l.length).map λi=>g (l.getD i d)).sum:=by
 congr 1
 apply Z1;intro i;rw[X1,X1];by_cases h:i<l.length
 .rw[XT h,Yn h];simp[XU,XT h]
 .rw[Yu (by lia),Yu (by simp;lia)];rfl
theorem G7:∀l:List (List Nat),l.flatten.sum=(l.map List.sum).sum
 |[]=>rfl
 |a::l=>by rw[Yt,List.sum_append,X7,Zj,G7 l]
def QI(g:Good r)(f:Patch->Bool):gc (aq r) f (whole (aq r))=((aq r).cells.filter f).length:=by
 rw[<-G4];show _=(r.flatten.map λp=>if f p then 1 else 0).sum;rw[List.map_flatten,G7,Y1,G6 _ []];unfold gc
 congr 1
 apply Zl;intro i hi;have hi:i<r.length:=Yb.mp hi;have hr:=g.row (r.getD i []) (by rw[XU,XT hi];exact Ys hi);show jY (aq r) f (0+i) 0 (width r)=((r.getD i []).map λp=>if f p then 1 else 0).sum;rw[G6 _ bare,hr];unfold jY
 congr 1
 apply Zl;intro j hj;rw[Zh,Zh,hJ g (Yb.mp hj)];rfl
theorem kW(g:Good r):inside (aq r) (whole (aq r)):=#[g.h1,g.w1,by show 0+r.length<=r.length;lia,by show 0+width r<=width r;lia]
def QJ(g:Good r)(c:Nat):Kyq.halvesOf (aq r) c=((Kyq.partsFor (aq r)).filter λq=>(cell (aq r) q.r q.c).d != 0&&((cell (aq r) q.r q.c).a==c||(cell (aq r) q.r q.c).b==c)).length:=by
 unfold Kyq.halvesOf;rw[<-QI g,sC _ (vR (kW g)),<-G4]
 congr 1
 apply Zl;intro q hq;obtain⟨h1,h2⟩:=nV (vR (kW g)) (kW g) q hq;exact QH (λp hp=>by simp[hp]) h1 h2
theorem G8(h:aZ r){i j:Nat}(hj:j<width r):okPatch (cell (aq r) i j)=true:=by
 rw[hJ h.good hj];unfold at2;by_cases hi:i<r.length
 .have hm:r.getD i []∈r:=by rw[XU,XT hi];exact Ys hi
  rw[XU (l:=r.getD i [])];cases q:(r.getD i [])[j]? with|none=>rfl|some p=>exact h.ok _ hm p (X_ q)
 .rw[XU (l:=r),Yu (by lia)];rfl
def iQ(p:Patch)(c:Nat):Bool:=p.a==c||p.b==c
def zQ(m:Kyq.Measures)(b:Block)(l:List Kyq2.Rect)(c:Nat):List (Nat×Nat):=(l.filter λq=>iQ (cell b q.r q.c) c&&(cell b q.r q.c).d==0).map λq=>(Kyq.sideOf m (min q.h q.w),Kyq.sideOf m (max q.h q.w))
def zR(b:Block)(l:List Kyq2.Rect)(c:Nat):Nat:=(l.filter λq=>iQ (cell b q.r q.c) c&&(cell b q.r q.c).d != 0).length
theorem QK(h:aZ r)(m:Kyq.Measures)(c:Nat):Kyq.cuts m (aq r) (Kyq.partsFor (aq r)) c=zQ m (aq r) (Kyq.partsFor (aq r)) c++List.replicate ((zR (aq r) (Kyq.partsFor (aq r)) c+1) / 2) (Kyq.square m):=by
 unfold Kyq.cuts;rw[QJ h.good]
 congr 1
 .unfold Kyq.wholes zQ
  congr 1
  apply Y3;intro q hq;obtain⟨_,h2⟩:=nV (vR (kW h.good)) (kW h.good) q hq;obtain⟨_,_,_,_,o⟩:=kM (G8 h (i:=q.r) (j:=q.c) (by have:=h2.2.2.2;have:=h2.2.1;show q.c<width r;have e:(aq r).w=width r:=rfl;lia));unfold iQ;generalize cell (aq r) q.r q.c=p at o ⊢;rcases o with⟨o1,o2⟩|⟨o1,_⟩
  .rw[o1,o2];simp
  .have e:(p.d==0)=false:=by rw[beq_eq_false_iff_ne];lia
   rw[e,aai,Bool.false_and]
 .unfold zR iQ
  congr 4
  apply Y3;intro q _;exact Bool.and_comm _ _
theorem sE:∀(m:Nat) (q:Kyq2.Rect),q.h+q.w<=m->inside b q->seams (bestAt b q).plan+1<=q.h*q.w
 |0,q,hm,h=>by have:=h.1;lia
 |m+1,q,hm,h=>by
  cases n:piece b q with|true=>rw[su h n];exact aaH h.1 h.2.1|false=>
   rcases sv h n with⟨k,h1,h2,e⟩|⟨k,h1,h2,e⟩<;>rw[e]
   .have a:=sE m (left q k) (by show q.h+k<=m;lia) (pU h h1 h2);have c:=sE m (right q k) (by show q.h+(q.w-k)<=m;lia) (pV h h1 h2);simp only[mz,seams];have e2:q.h*q.w=q.h*k+q.h*(q.w-k):=by rw[<-Nat.mul_add,ZP (by lia)]
    have a':seams (bestAt b (left q k)).plan+1<=q.h*k:=a;have c':seams (bestAt b (right q k)).plan+1<=q.h*(q.w-k):=c
    lia
   .have a:=sE m (upper q k) (by show k+q.w<=m;lia) (pW h h1 h2);have c:=sE m (lower q k) (by show q.h-k+q.w<=m;lia) (pX h h1 h2);simp only[mB,seams];have e2:q.h*q.w=k*q.w+(q.h-k)*q.w:=by rw[<-Nat.add_mul,ZP (by lia)]
    have a':seams (bestAt b (upper q k)).plan+1<=k*q.w:=a;have c':seams (bestAt b (lower q k)).plan+1<=(q.h-k)*q.w:=c
    lia
def sF(g:Good r):seams (Kyq.planFor (aq r))+1<=36:=by
 refine X8 (sE _ _ (X0 _) (kW g)) ?_;show r.length*width r<=6*6;exact ZH g.h6 g.w6
open Kyq3 (Item Strip)
abbrev pr(x:Item):Nat×Nat:=(x.h,x.w)
def desc(a c:Nat×Nat):Prop:=c.1<a.1\/(a.1=c.1/\c.2<=a.2)
theorem QL{b c:Nat×Nat}(h:desc a b)(k:desc b c):desc a c:=by unfold desc at*;lia
theorem QM{b:Nat×Nat}(h:desc a b)(k:desc b a):a=b:=by
 unfold desc at*;have h1:a.1=b.1:=by lia
 have h2:a.2=b.2:=by lia
 exact Prod.ext h1 h2
theorem zS(x:Item):∀l,((Kyq3.put x l).map pr).Perm (pr x::l.map pr)
 |[]=>List.Perm.refl _
 |y::l=>by
  unfold Kyq3.put;split
  .exact List.Perm.refl _
  .exact(List.Perm.cons _ (zS x l)).trans (List.Perm.swap ..)
theorem G9(x:Item):∀l,(l.map pr).Pairwise desc->((Kyq3.put x l).map pr).Pairwise desc
 |[],_=>by simp[Kyq3.put]
 |y::l,h=>by
  have h:=h;rw[X7,Zb]at h;unfold Kyq3.put;split
  .rename_i c;have xy:desc (pr x) (pr y):=by
    unfold Kyq3.before at c;simp at c;unfold desc;simp only
    lia
   rw[X7,Zb];refine#[λp hp=>?_,by rw[X7,Zb];exact h];rw[X7]at hp;rcases X5.mp hp with rfl|hp
   .exact xy
   .exact QL xy (h.1 p hp)
  .rename_i c;have yx:desc (pr y) (pr x):=by
    unfold Kyq3.before at c;simp at c;unfold desc;simp only
    lia
   rw[X7,Zb];refine#[λp hp=>?_,G9 x l h.2];rcases X5.mp ((zS x l).mem_iff.mp hp)with rfl|hp
   .exact yx
   .exact h.1 p hp
theorem G_:∀(l:List (Nat×Nat)) (i:Nat),(Kyq3.itemsFrom i l).map pr=l
 |[],_=>rfl
 |p::l,i=>by simp[Kyq3.itemsFrom,G_ l]
theorem Ha:∀l:List Item,((Kyq3.sorted l).map pr).Perm (l.map pr)/\((Kyq3.sorted l).map pr).Pairwise desc
 |[]=>#[List.Perm.refl _,List.Pairwise.nil]
 |x::l=>by
  obtain⟨a,c⟩:=Ha l;exact#[(zS x _).trans (List.Perm.cons _ a),G9 x _ c]
theorem Hb:∀ {l m:List (Nat×Nat)},l.Perm m->l.Pairwise desc->m.Pairwise desc->l=m
 |[],m,p,_,_=>(List.nil_perm.mp p).symm
 |a::l,[],p,_,_=>absurd p.length_eq (by simp)
 |a::l,c::m,p,h,k=>by
  rw[Zb]at h k;have e:a=c:=by
   rcases X5.mp (p.mem_iff.mp (Ym (a:=a)))with e|ha
   .exact e
   .rcases X5.mp (p.symm.mem_iff.mp (Ym (a:=c)))with e|hc
    .exact e.symm
    .exact QM (h.1 c hc) (k.1 a ha)
  subst e;rw[Hb (List.Perm.cons_inv p) h.2 k.2]
def QN{out:List (Nat×Nat)}(p:out.Perm l)(d:out.Pairwise desc):out=(Kyq3.sorted (Kyq3.items l)).map pr:=by
 obtain⟨a,c⟩:=Ha (Kyq3.items l);rw[show(Kyq3.items l).map pr=l from G_ l 0]at a;exact Hb (p.trans a.symm) d c
def cC(wide:Nat)(hs fs:List Nat)(p:Nat×Nat):Nat:=((hs.zip fs).findIdx λs=>decide (s.1=p.1)&&decide (s.2+p.2<=wide))
noncomputable def jr(wide:Nat)(st:List Nat×List Nat)(p:Nat×Nat):List Nat×List Nat:=
 if cC wide st.1 st.2 p=st.1.length then(st.1++[p.1],st.2++[0+p.2])else(st.1,st.2.set (cC wide st.1 st.2 p) (st.2.getD (cC wide st.1 st.2 p) 0+p.2))
theorem QO(wide:Nat){hs fs:List Nat}(e:hs.length=fs.length)(p:Nat×Nat):cC wide hs fs p<=hs.length:=by
 refine X8 List.findIdx_le_length ?_;simp;lia
theorem Hc(wide:Nat)(x:Item):∀t:List Strip,((Kyq3.laid wide x t).map (·.h),(Kyq3.laid wide x t).map (·.used))=jr wide (t.map (·.h),t.map (·.used)) (pr x)
 |[]=>by simp[Kyq3.laid,jr,cC]
 |s::t=>by
  have ih:=Hc wide x t;unfold Kyq3.laid;by_cases c:s.h=x.h/\s.used+x.w<=wide
  .rw[if_pos c];have e:cC wide ((s::t).map (·.h)) ((s::t).map (·.used)) (pr x)=0:=by
    unfold cC;simp[List.findIdx_cons,c.1,c.2]
   unfold jr;rw[e,if_neg (by simp)];simp
  .rw[if_neg c];have e:cC wide ((s::t).map (·.h)) ((s::t).map (·.used)) (pr x)=cC wide (t.map (·.h)) (t.map (·.used)) (pr x)+1:=by
    unfold cC;rw[X7,X7,aal,List.findIdx_cons];have:(decide (s.h=(pr x).1)&&decide (s.used+(pr x).2<=wide))=false:=by
     rw[Z2];simp
     lia
    simp only[this];rfl
   unfold jr at ih ⊢;rw[e];simp only[X7,X2,Nat.add_right_cancel_iff]at ih ⊢;by_cases c2:cC wide (t.map (·.h)) (t.map (·.used)) (pr x)=(t.map (·.h)).length
   .rw[if_pos c2]at ih ⊢;injection ih with i1 i2;rw[i1,i2];simp
   .rw[if_neg c2]at ih ⊢;injection ih with i1 i2;rw[i1,i2];simp
theorem pZ(wide:Nat):∀(L:List Item) (t:List Strip),((L.foldl (λt x=>Kyq3.laid wide x t) t).map (·.h),(L.foldl (λt x=>Kyq3.laid wide x t) t).map (·.used))=(L.map pr).foldl (jr wide) (t.map (·.h),t.map (·.used))
 |[],t=>rfl
 |x::L,t=>by
  rw[YM,X7,YM,pZ wide L,Hc]
theorem QP(l:List Nat):∀a,l.foldl (·+·) a=a+l.sum:=by
 induction l with|nil=>intro a;rfl|cons x l ih=>intro a;rw[YM,ih,Zj];lia
def QQ{wide:Nat}{out:List (Nat×Nat)}(p:out.Perm l)(d:out.Pairwise desc):Kyq3.length wide l=(out.foldl (jr wide) ([],[])).1.sum:=by
 rw[QN p d];have e:=pZ wide (Kyq3.sorted (Kyq3.items l)) [];rw[ZU,ZU]at e;rw[<-e];unfold Kyq3.length Kyq3.sum Kyq3.strips;rw[QP,Zh]
end Qm
namespace QS
open Qm
open PySem PySem.Spec PyProof.Rows L2
open Kyq1 (Patch)
open Qm (Rows)
variable{H H':Hp}{v:V}{K:ZX}{xs:List V}{n:Nat}{P:Program}{w:World}{mg:ZQ}{base:Heap}{b:Rows}
inductive de(H:Hp)(v:V)(p:Patch):Prop|mk(a:_)(_:v=.ref a)(_:H a=some (.tup [.int p.d,.int p.a,.int p.b]))
inductive eC(H:Hp)(v:V)(r:List Patch):Prop|mk(a vs:_)(_:v=.ref a)(_:H a=some (.lst vs))(_:Paired (de H) vs r)
inductive a_(H:Hp)(v:V)(b:Rows):Prop|mk(a vs:_)(_:v=.ref a)(_:H a=some (.lst vs))(_:Paired (eC H) vs b)
def de.mono{p:Patch}(s:ag H H')(h:de H v p):de H' v p:=by
 obtain⟨a,e,q⟩:=h;exact#[a,e,s _ _ q]
theorem eC.mono{p:List Patch}(s:ag H H')(h:eC H v p):eC H' v p:=by
 obtain⟨a,vs,e,q,r⟩:=h;exact#[a,vs,e,s _ _ q,Paired.aY r λ_ _ z=>z.mono s]
theorem a_.mono{p:Rows}(s:ag H H')(h:a_ H v p):a_ H' v p:=by
 obtain⟨a,vs,e,q,r⟩:=h;exact#[a,vs,e,s _ _ q,Paired.aY r λ_ _ z=>z.mono s]
inductive fO{α β:Type}(A:Hp->V->α->Prop)(P:α->Prop)(B:Hp->V->β->Prop)(f:α->β)(vs:List V)(H:Hp)(Q:VK)(E:XK):Prop|mk(v x:_)(_:vs=[v])(_:A H v x)(_:P x)(_:∀H' u,ag H H'->B H' u (f x)->Q u H')
inductive js{α β γ:Type}(A:Hp->V->α->Prop)(B:Hp->V->β->Prop)(P:α->β->Prop)(C:Hp->V->γ->Prop)(f:α->β->γ)(vs:List V)(H:Hp)(Q:VK)(E:XK):Prop|mk(v x u y:_)(_:vs=[v,u])(_:A H v x)(_:B H u y)(_:P x y)(_:∀H' z,ag H H'->C H' z (f x y)->Q z H')
def cG(_:Hp)(v:V)(n:Nat):Prop:=v=.int n
def bW{α:Type}(R:Hp->V->α->Prop)(H:Hp)(v:V):Option α->Prop
 |none=>v=.ay
 |some x=>R H v x
structure Glob(mg:ZQ):Prop where
 bP:mg "len"=none
 eX:mg "range"=none
 zT:mg "reversed"=none
 He:mg "enumerate"=none
 vT:a8 mg "MOST" 6
section
variable{a:Addr}{i:Nat}{x:V}
theorem zU(h:H a=some (.lst xs))(hi:i<xs.length):(nH K a xs.length).go i H:=#[hi,xs,_,af.of h,XT (by lia)]
def zV(h:H a=some (.lst xs))(y:(nH K a xs.length).fD i H x H'):H'=H/\xs[xs.length-1-i]?=some x:=#[y.1,y.2 xs (af.of h)]
def sG(h:H a=some (.lst xs))(hi:i<xs.length):(gT K a).go i H:=#[xs,_,af.of h,XT hi]
def sI(h:H a=some (.lst xs))(y:(gT K a).fD i H x H'):H'=H/\xs[i]?=some x:=#[y.1,y.2 xs (af.of h)]
theorem sJ(h:H a=some (.lst xs))(hn:n=xs.length):(gT K a).stop n H:=#[xs,af.of h,by lia]
end
def dD(h:n<=1000):n<=sizeLine:=X8 h (by decide)
abbrev Hf:Sp:=fO de (λ_=>True) de Kyq1.patchTurned
theorem QR(D:bx K mg "turned_patch" (top 29) ["patch"]):aH P w K mg base 1 "turned_patch" ["patch"] Hf:=by
 refine D.go ["patch"] λnd H vs Q E hr h=>?_;obtain⟨v,p,rfl,⟨a,rfl,ha⟩,_,k⟩:=h;refine#[_,(aM (aL bL (iL je (pv 0) aw (λ_ _=>rfl)) aw) (ax (pv 0)) (aM (aL bL (iL je (pv 0) aw (λ_ _=>rfl)) aw) (ax (cU (bC aw (aU (iL je (pv 0) aw (λ_ _=>rfl)) (iL je (pv 0) aw (λ_ _=>rfl)))))) (ax (cU (bC aw (aU (iL je (pv 0) aw (λ_ _=>rfl)) (iL je (pv 0) aw (λ_ _=>rfl)))))))),?_];refine#[_,rfl,a,_,_,_,rfl,rfl,aI.of ha,rfl,rfl,_,rfl,bg (λh=>?_) (λh=>?_)]
 .refine#[_,rfl,k _ _ (ag.refl _) ?_];have h:p.d=0:=by simpa using h
  unfold Kyq1.patchTurned;rw[if_pos h];exact#[a,rfl,ha]
 have h0:¬p.d=0:=by simpa using h
 refine#[_,rfl,a,_,_,_,rfl,rfl,aI.of ha,rfl,rfl,_,rfl,bg (λh=>?_) (λh=>?_)]
 .have h:p.d=1:=by simp at h;lia
  refine#[_,rfl,a,_,_,_,rfl,rfl,aI.of ha,rfl,_,rfl,a,_,_,_,rfl,rfl,aI.of ha,rfl,(by show 3<=sizeLine;decide),λt ht=>k _ _ (ai ht) ?_];unfold Kyq1.patchTurned;rw[if_neg h0,if_pos h];exact#[t,rfl,ab]
 .have h:¬p.d=1:=by simp at h;lia
  refine#[_,rfl,a,_,_,_,rfl,rfl,aI.of ha,rfl,_,rfl,a,_,_,_,rfl,rfl,aI.of ha,rfl,(by show 3<=sizeLine;decide),λt ht=>k _ _ (ai ht) ?_];unfold Kyq1.patchTurned;rw[if_neg h0,if_neg h];exact#[t,rfl,ab]
abbrev Hg:Sp:=fO de (λp=>p.d<=2) de Kyq1.patchMirrored
theorem QT(D:bx K mg "mirrored_patch" (top 30) ["patch"]):aH P w K mg base 1 "mirrored_patch" ["patch"] Hg:=by
 refine D.go ["patch"] λnd H vs Q E hr h=>?_;obtain⟨v,p,rfl,⟨a,rfl,ha⟩,hd,k⟩:=h;refine#[_,(aM (aL bL (iL je (pv 0) aw (λ_ _=>rfl)) aw) (ax (pv 0)) (ax (cU (bC (aO dM aw (iL je (pv 0) aw (λ_ _=>rfl))) (aU (iL je (pv 0) aw (λ_ _=>rfl)) (iL je (pv 0) aw (λ_ _=>rfl))))))),?_];refine#[_,rfl,a,_,_,_,rfl,rfl,aI.of ha,rfl,rfl,_,rfl,bg (λh=>?_) (λh=>?_)]
 .refine#[_,rfl,k _ _ (ag.refl _) ?_];have h:p.d=0:=by simpa using h
  unfold Kyq1.patchMirrored;rw[if_pos h];exact#[a,rfl,ha]
 have h0:¬p.d=0:=by simpa using h
 refine#[_,rfl,a,_,_,_,rfl,rfl,aI.of ha,rfl,_,_,rfl,rfl,_,rfl,a,_,_,_,rfl,rfl,aI.of ha,rfl,_,rfl,a,_,_,_,rfl,rfl,aI.of ha,rfl,(by show 3<=sizeLine;decide),λt ht=>k _ _ (ai ht) ?_];unfold Kyq1.patchMirrored;rw[if_neg h0];refine#[t,rfl,?_];rw[ab];show some (HO.tup [V.int (3-(p.d:Int)),_,_])=some (HO.tup [V.int ((3-p.d:Nat):Int),_,_]);rw[show(3-(p.d:Int))=((3-p.d:Nat):Int) by lia]
abbrev Hh:Sp:=js a_ cG (λb c=>Qm.Good b/\c<Qm.width b) eC (λb c=>b.reverse.map λrow=>Kyq1.patchTurned (row.getD c Kyq1.bare))
theorem QU(T:Glob mg)(D:bx K mg "turned_column" (top 31) ["block","column"])(zW:aH P w K mg base 1 "turned_patch" ["patch"] Hf):aH P w K mg base 2 "turned_column" ["block","column"] Hh:=by
 refine D.go ["block","column","row"] λnd H vs Q E hr h=>?_;obtain⟨v,b,u,c,rfl,⟨a,vs,rfl,ha,pr⟩,rfl,⟨g,hc⟩,k⟩:=h;refine#[_,(ax (jP (yY rfl T.zT (au (pv 0))) (fF (own:=[("row",2)]) (by rfl)) (λ_ _ _ _ _=>(bQ 2)) (λ_ _ _ _ _=>(bh zW (au (a0 K (pv 2) (pv 1))))))),?_];have hn:=pr.length;refine#[_,rfl,a,vs,rfl,af.of ha,λD hD=>jk (J:=nH K a vs.length) (j:=2) de (λ_ _ _ _ s h=>h.mono s) (b.reverse.map λrow=>Kyq1.patchTurned (row.getD c Kyq1.bare)) (dD (by have:=g.h6;simp;lia)) hD (λ_=>rfl) (λi y H' hy s1=>?_) (λH' s1=>?_) (λH' acc hA s1 df=>?_)]
 .have s2:=s1.trans bc;obtain⟨row,hrow,rfl⟩:∃row,b[vs.length-1-i]?=some row/\Kyq1.patchTurned (row.getD c Kyq1.bare)=y:=by
   rw[X1]at hy;cases q:b.reverse[i]? with|none=>rw[q]at hy;cases hy|some row=>
    rw[q]at hy;have hi:=(XZ.mp q).1;rw[Yz]at hi;rw[List.getElem?_reverse hi]at q;exact#[row,by rw[hn];exact q,XW hy]
  obtain⟨u,hu,r,ws,rfl,hr',hX⟩:=Paired.get pr hrow;have hi:i<vs.length:=by
   have:=(XZ.mp hy).1;simp at this
   lia
  refine#[zU (s2 _ _ ha) hi,λx h_ yl=>?_];obtain⟨e1,e2⟩:=zV (s2 _ _ ha) yl;rw[hu]at e2;cases e2;refine#[e1,λQ k'=>?_];have vx:c<row.length:=by rw[g.row row (X_ hrow)];exact hc
  obtain⟨mm,hp,pp⟩:=Paired.get hX (XT vx);refine#[_,rfl,_,rfl,r,ws,_,mm,rfl,rfl,af.of (s1 _ _ hr'),cB hp,mm,row[c],rfl,pp.mono s1,trivial,λH3 z s3 r3=>k' z H3 s3 ?_];rw[XU,XT vx];exact r3
 .show vs.length<=_;simp
  lia
 .exact k H' _ (s1.trans bc) #[D,acc,rfl,hA,Paired.aY df λ_ _ z=>z.mono bc]
open Qm (Rows aZ)
def QV(h:aZ b):∃r0,b[0]?=some r0/\r0.length=Qm.width b:=by
 cases b with|nil=>have:=h.good.h1;simp at this|cons r t=>exact#[r,rfl,rfl]
def p5{vs:List V}(h:aZ b)(pr:Paired (eC H) vs b):c8 λv0 r ws=>vs[0]?=some v0/\v0=.ref r/\H r=some (.lst ws)/\ws.length=Qm.width b:=by
 obtain⟨r0,e,l⟩:=QV h;obtain⟨v0,e1,r,ws,e2,e3,e4⟩:=Paired.get pr e;exact#[v0,r,ws,e1,e2,e3,by rw[e4.length,l]]
def jl(h:xs[0]?=some v):l_ xs 0=some v:=cB (j:=0) h
abbrev zX:Sp:=fO a_ aZ a_ dS
theorem QW(T:Glob mg)(D:bx K mg "turned" (top 32) ["block"])(zY:aH P w K mg base 2 "turned_column" ["block","column"] Hh):aH P w K mg base 3 "turned" ["block"] zX:=by
 refine D.go ["block","column"] λnd H vs Q E hr h=>?_;obtain⟨v,b,rfl,⟨a,vs,rfl,ha,pr⟩,g,k⟩:=h;refine#[_,(ax (jP (iJ rfl T.eX (au (bO K T.bP (a0 K (pv 0) aw)))) (fF (own:=[("column",1)]) (by rfl)) (λ_ _ _ _ _=>(bQ 1)) (λ_ _ _ _ _=>(bh zY (aU (pv 0) (pv 1)))))),?_];obtain⟨v0,r0,ws,e0,rfl,h0,l0⟩:=p5 g pr;have w6:=g.good.w6;refine#[_,rfl,a,vs,_,_,rfl,rfl,af.of ha,jl e0,r0,ws,rfl,.inl (af.of h0),(ws.length:Int),rfl,by lia,by lia,λD hD=>jk (J:=gm 0 ((ws.length:Int).toNat)) (j:=1) eC (λ_ _ _ _ s h=>h.mono s) (dS b) (dD (by simp[dS];lia)) hD (λ_=>rfl) (λi y H' hy s1=>?_) (λH' s1=>?_) (λH' acc hA s1 df=>?_)]
 .obtain⟨hi,rfl⟩:i<Qm.width b/\(b.reverse.map λrow=>Kyq1.patchTurned (row.getD i Kyq1.bare))=y:=by
   unfold dS at hy;rw[X1]at hy;by_cases q:i<Qm.width b
   .rw[Yn q]at hy;exact#[q,XW hy]
   .rw[Yu (by simp;lia)]at hy;cases hy
  refine#[by show i<_;lia,λx h_ yl=>?_];obtain⟨e1,rfl⟩:=yl;refine#[e1,λQ k'=>?_];refine#[_,rfl,_,rfl,.ref a,b,_,i,rfl,#[a,vs,rfl,s1 _ _ ha,Paired.aY pr λ_ _ z=>z.mono s1],by show V.int (0+(i:Int))=V.int i;rw[YJ],#[g.good,hi],λH3 z s3 r3=>k' z H3 s3 r3]
 .show _<=(dS b).length;simp[dS]
  lia
 .exact k H' _ (s1.trans bc) #[D,acc,rfl,hA,Paired.aY df λ_ _ z=>z.mono bc]
abbrev Hi:Sp:=fO eC (λr=>r.length<=6/\∀p∈r,Kyq1.okPatch p=true) eC (λr=>r.reverse.map Kyq1.patchMirrored)
theorem QX(T:Glob mg)(D:bx K mg "mirrored_row" (top 33) ["row"])(zZ:aH P w K mg base 1 "mirrored_patch" ["patch"] Hg):aH P w K mg base 2 "mirrored_row" ["row"] Hi:=by
 refine D.go ["row","patch"] λnd H vs Q E hr h=>?_;obtain⟨v,b,rfl,⟨a,vs,rfl,ha,pr⟩,⟨h6,ok⟩,k⟩:=h;refine#[_,(ax (jP (yY rfl T.zT (au (pv 0))) (fF (own:=[("patch",1)]) (by rfl)) (λ_ _ _ _ _=>(bQ 1)) (λ_ _ _ _ _=>(bh zZ (au (pv 1)))))),?_];have hn:=pr.length;refine#[_,rfl,a,vs,rfl,af.of ha,λD hD=>jk (J:=nH K a vs.length) (j:=1) de (λ_ _ _ _ s h=>h.mono s) (b.reverse.map Kyq1.patchMirrored) (dD (by simp;lia)) hD (λ_=>rfl) (λi y H' hy s1=>?_) (λH' s1=>?_) (λH' acc hA s1 df=>?_)]
 .have s2:=s1.trans bc;obtain⟨p,hp,rfl⟩:∃p,b[vs.length-1-i]?=some p/\Kyq1.patchMirrored p=y:=by
   rw[X1]at hy;cases q:b.reverse[i]? with|none=>rw[q]at hy;cases hy|some row=>
    rw[q]at hy;have hi:=(XZ.mp q).1;rw[Yz]at hi;rw[List.getElem?_reverse hi]at q;exact#[row,by rw[hn];exact q,XW hy]
  obtain⟨u,hu,pu⟩:=Paired.get pr hp;have hi:i<vs.length:=by
   have:=(XZ.mp hy).1;simp at this
   lia
  refine#[zU (s2 _ _ ha) hi,λx h_ yl=>?_];obtain⟨e1,e2⟩:=zV (s2 _ _ ha) yl;rw[hu]at e2;cases e2;refine#[e1,λQ k'=>?_];exact#[_,rfl,u,p,rfl,pu.mono s1,Qn (ok p (X_ hp)),λH3 z s3 r3=>k' z H3 s3 r3]
 .show vs.length<=_;simp
  lia
 .exact k H' _ (s1.trans bc) #[D,acc,rfl,hA,Paired.aY df λ_ _ z=>z.mono bc]
abbrev z3:Sp:=fO a_ aZ a_ dU
theorem QY(T:Glob mg)(D:bx K mg "mirrored" (top 34) ["block"])(z5:aH P w K mg base 2 "mirrored_row" ["row"] Hi):aH P w K mg base 3 "mirrored" ["block"] z3:=by
 refine D.go ["block","row"] λnd H vs Q E hr h=>?_;obtain⟨v,b,rfl,⟨a,vs,rfl,ha,pr⟩,g,k⟩:=h;refine#[_,(ax (jP (gq (pv 0)) (fF (own:=[("row",1)]) (by rfl)) (λ_ _ _ _ _=>(bQ 1)) (λ_ _ _ _ _=>(bh z5 (au (pv 1)))))),?_];have hn:=pr.length;have h6:=g.good.h6;refine#[_,rfl,a,rfl,#[vs,af.of ha],λD hD=>jk (J:=gT K a) (j:=1) eC (λ_ _ _ _ s h=>h.mono s) (dU b) (dD (by simp[dU];lia)) hD (λ_=>rfl) (λi y H' hy s1=>?_) (λH' s1=>?_) (λH' acc hA s1 df=>?_)]
 .have s2:=s1.trans bc;obtain⟨p,hp,rfl⟩:∃p,b[i]?=some p/\p.reverse.map Kyq1.patchMirrored=y:=by
   unfold dU at hy;rw[X1]at hy;cases q:b[i]? with|none=>rw[q]at hy;cases hy|some row=>rw[q]at hy;exact#[row,rfl,XW hy]
  obtain⟨u,hu,pu⟩:=Paired.get pr hp;refine#[sG (s2 _ _ ha) (XZ.mp hu).1,λx h_ yl=>?_];obtain⟨e1,e2⟩:=sI (s2 _ _ ha) yl;rw[hu]at e2;cases e2;refine#[e1,λQ k'=>?_];have hm:=X_ hp;exact#[_,rfl,u,p,rfl,pu.mono s1,#[by rw[g.good.row p hm];exact g.good.w6,g.ok p hm],λH3 z s3 r3=>k' z H3 s3 r3]
 .exact sJ (s1.trans bc _ _ ha) (by simp[dU];lia)
 .exact k H' _ (s1.trans bc) #[D,acc,rfl,hA,Paired.aY df λ_ _ z=>z.mono bc]
theorem Paired.app{α β:Type}{F:α->β->Prop}:∀ {l l':List α} {m m':List β},Paired F l m->Paired F l' m'->Paired F (l++l') (m++m')
 |_,_,_,_,.nil,s=>s
 |_,_,_,_,.cons r t,s=>.cons r (Paired.app t s)
theorem Paired.rep{α β:Type}{F:α->β->Prop}{l:List α}{m:List β}(h:Paired F l m):∀n,Paired F (List.replicate n l).flatten (Qm.rep n m)
 |0=>.nil
 |n+1=>by
  show Paired F (List.replicate (n+1) l).flatten (List.replicate (n+1) m).flatten;rw[Y7,Yt,Y7,Yt];exact Paired.app h (Paired.rep h n)
theorem vU{m:Nat}:(!decide (V.int (m:Int)=V.int (n:Int)))=true↔m≠n:=by simp;lia
abbrev Hj:Sp:=js a_ a_ (λa b=>aZ a/\aZ b) (bW a_) fc
theorem QZ(T:Glob mg)(D:bx K mg "beside" (top 35) ["first","second"]):aH P w K mg base 1 "beside" ["first","second"] Hj:=by
 refine D.go ["first","second","place"] λnd H vs Q E hr h=>?_;obtain⟨v,x,u,y,rfl,⟨a,vs,rfl,ha,gB⟩,⟨b,us,rfl,hb,nX⟩,⟨ga,gb⟩,k⟩:=h;refine#[_,(aM (PW.pt (m7 (aL uR (bO K T.bP (pv 0)) (bO K T.bP (pv 1))) (o4 (aL gX (aO bS (bO K T.bP (a0 K (pv 0) aw)) (bO K T.bP (a0 K (pv 1) aw))) (aE T.vT))))) (ax b_) (ax (jP (iJ rfl T.eX (au (bO K T.bP (pv 0)))) (fF (own:=[("place",2)]) (by rfl)) (λ_ _ _ _ _=>(bQ 2)) (λ_ _ _ _ _=>(aO jO (a0 K (pv 0) (pv 2)) (a0 K (pv 1) (pv 2))))))),?_];have la:=gB.length;have lb:=nX.length;obtain⟨v0,r0,ws,e0,rfl,h0,l0⟩:=p5 ga gB;obtain⟨u0,q0,zs,f0,rfl,g0,m0⟩:=p5 gb nX;refine#[_,rfl,a,vs,rfl,.inl (af.of ha),_,rfl,b,us,rfl,.inl (af.of hb),rfl,_,rfl,bg (λh=>jj ?_) (λh=>?_)]
 .refine k H _ (ag.refl _) ?_;unfold fc;rw[if_neg (λz=>vU.mp h (by lia))];rfl
 have hl:vs.length=us.length:=Decidable.not_not.mp λz=>h (vU.mpr z);refine#[_,rfl,a,vs,_,_,rfl,rfl,af.of ha,jl e0,r0,ws,rfl,.inl (af.of h0),_,rfl,b,us,_,_,rfl,rfl,af.of hb,jl f0,q0,zs,rfl,.inl (af.of g0),_,_,rfl,rfl,_,_,rfl,rfl,_,rfl,bV (λh=>?_) (λh=>?_)]
 .refine k H _ (ag.refl _) ?_;unfold fc;rw[if_neg (by lia)];rfl
 have fit:x.length=y.length/\Qm.width x+Qm.width y<=6:=by lia
 have h6:=ga.good.h6;refine#[_,rfl,a,vs,rfl,.inl (af.of ha),(vs.length:Int),rfl,by lia,by lia,λD hD=>jk (J:=gm 0 ((vs.length:Int).toNat)) (j:=2) eC (λ_ _ _ _ s h=>h.mono s) (List.zipWith (·++·) x y) (dD (by simp;lia)) hD (λ_=>rfl) (λi z H' hz s1=>?_) (λH' s1=>?_) (λH' acc hA s1 df=>?_)]
 .have s2:=s1.trans bc;have hi:i<x.length:=by
   have:=(XZ.mp hz).1;simp at this
   lia
  rw[List.getElem?_zipWith,XT hi,XT (show i<y.length by lia)]at hz;have hz:x[i]++y[i]=z:=XW hz;subst hz;obtain⟨v1,hv1,r1,w1,rfl,hr1,p1⟩:=Paired.get gB (XT hi);obtain⟨v2,hv2,r2,w2,rfl,hr2,p2⟩:=Paired.get nX (XT (show i<y.length by lia));refine#[by show i<_;lia,λx' h_ yl=>?_];obtain⟨e1,rfl⟩:=yl;refine#[e1,λQ k'=>?_];have c1:=p1.length;have c2:=p2.length;have d1:=ga.good.row _ (Ys hi);have d2:=gb.good.row _ (Ys (show i<y.length by lia));refine#[_,rfl,_,rfl,a,vs,_,_,rfl,rfl,af.of (s1 _ _ ha),at_of (j:=i) (by rw[YJ]) hv1,_,rfl,_,rfl,b,us,_,_,rfl,rfl,af.of (s1 _ _ hb),at_of (j:=i) (by rw[YJ]) hv2,r1,r2,w1,w2,rfl,rfl,s1 _ _ hr1,s1 _ _ hr2,dD (by lia),λp hp=>k' _ _ (ai hp) ?_];exact#[p,_,rfl,ab,Paired.app (Paired.aY p1 λ_ _ z=>z.mono (s1.trans (ai hp))) (Paired.aY p2 λ_ _ z=>z.mono (s1.trans (ai hp)))]
 .show _<=(List.zipWith (·++·) x y).length;simp
  lia
 .refine k H' _ (s1.trans bc) ?_;unfold fc;rw[if_pos fit];exact#[D,acc,rfl,hA,Paired.aY df λ_ _ z=>z.mono bc]
abbrev Hk:Sp:=js a_ a_ (λa b=>aZ a/\aZ b) (bW a_) ff
theorem Q0(T:Glob mg)(D:bx K mg "above" (top 36) ["first","second"]):aH P w K mg base 1 "above" ["first","second"] Hk:=by
 refine D.go ["first","second"] λnd H vs Q E hr h=>?_;obtain⟨v,x,u,y,rfl,⟨a,vs,rfl,ha,gB⟩,⟨b,us,rfl,hb,nX⟩,⟨ga,gb⟩,k⟩:=h;refine#[_,(aM (PW.pt (m7 (aL uR (bO K T.bP (a0 K (pv 0) aw)) (bO K T.bP (a0 K (pv 1) aw))) (o4 (aL gX (aO bS (bO K T.bP (pv 0)) (bO K T.bP (pv 1))) (aE T.vT))))) (ax b_) (ax (aO jO (pv 0) (pv 1)))),?_];have la:=gB.length;have lb:=nX.length;obtain⟨v0,r0,ws,e0,rfl,h0,l0⟩:=p5 ga gB;obtain⟨u0,q0,zs,f0,rfl,g0,m0⟩:=p5 gb nX;refine#[_,rfl,a,vs,_,_,rfl,rfl,af.of ha,jl e0,r0,ws,rfl,.inl (af.of h0),_,rfl,b,us,_,_,rfl,rfl,af.of hb,jl f0,q0,zs,rfl,.inl (af.of g0),rfl,_,rfl,bg (λh=>jj ?_) (λh=>?_)]
 .refine k H _ (ag.refl _) ?_;unfold ff;rw[if_neg (λz=>vU.mp h (by lia))];rfl
 have hl:ws.length=zs.length:=Decidable.not_not.mp λz=>h (vU.mpr z);refine#[_,rfl,a,vs,rfl,.inl (af.of ha),_,rfl,b,us,rfl,.inl (af.of hb),_,_,rfl,rfl,_,_,rfl,rfl,_,rfl,bV (λh=>?_) (λh=>?_)]
 .refine k H _ (ag.refl _) ?_;unfold ff;rw[if_neg (by lia)];rfl
 have fit:Qm.width x=Qm.width y/\x.length+y.length<=6:=by lia
 refine#[_,rfl,_,rfl,a,b,vs,us,rfl,rfl,ha,hb,dD (by lia),λp hp=>k _ _ (ai hp) ?_];unfold ff;rw[if_pos fit];exact#[p,_,rfl,ab,Paired.app (Paired.aY gB λ_ _ z=>z.mono (ai hp)) (Paired.aY nX λ_ _ z=>z.mono (ai hp))]
abbrev Hl:Sp:=js a_ cG (λa n=>aZ a/\1<=n/\n<=6) (bW a_) fI
theorem Q2(T:Glob mg)(D:bx K mg "times_beside" (top 37) ["block","times"]):aH P w K mg base 1 "times_beside" ["block","times"] Hl:=by
 refine D.go ["block","times","row"] λnd H vs Q E hr h=>?_;obtain⟨v,x,u,n,rfl,⟨a,vs,rfl,ha,gB⟩,rfl,⟨ga,n1,n6⟩,k⟩:=h;refine#[_,(aM (aL gX (aO rE (bO K T.bP (a0 K (pv 0) aw)) (pv 1)) (aE T.vT)) (ax b_) (ax (jP (gq (pv 0)) (fF (own:=[("row",2)]) (by rfl)) (λ_ _ _ _ _=>(bQ 2)) (λ_ _ _ _ _=>(aO jg (pv 2) (pv 1)))))),?_];have la:=gB.length;obtain⟨v0,r0,ws,e0,rfl,h0,l0⟩:=p5 ga gB;have w6:=ga.good.w6;have h6:=ga.good.h6;refine#[_,rfl,a,vs,_,_,rfl,rfl,af.of ha,jl e0,r0,ws,rfl,.inl (af.of h0),_,rfl,_,_,rfl,rfl,.inl #[by lia,by lia],_,_,rfl,rfl,_,rfl,bV (λh=>?_) (λh=>?_)]
 .refine k H _ (ag.refl _) ?_;unfold fI;rw[if_neg (by rw[<-l0];intro z;have:((ws.length*n:Nat):Int)<=6:=(by lia);rw[aae]at this;lia)];rfl
 have fit:Qm.width x*n<=6:=by
  rw[<-l0];have:((ws.length*n:Nat):Int)<=6:=by rw[aae];lia
  lia
 refine#[_,rfl,a,rfl,#[vs,af.of ha],λD hD=>jk (J:=gT K a) (j:=2) eC (λ_ _ _ _ s h=>h.mono s) (x.map (Qm.rep n)) (dD (by simp;lia)) hD (λ_=>rfl) (λi y H' hy s1=>?_) (λH' s1=>?_) (λH' acc hA s1 df=>?_)]
 .have s2:=s1.trans bc;obtain⟨p,hp,rfl⟩:∃p,x[i]?=some p/\Qm.rep n p=y:=by
   rw[X1]at hy;cases q:x[i]? with|none=>rw[q]at hy;cases hy|some row=>rw[q]at hy;exact#[row,rfl,XW hy]
  obtain⟨u,hu,r1,w1,rfl,hr1,p1⟩:=Paired.get gB hp;refine#[sG (s2 _ _ ha) (XZ.mp hu).1,λx' h_ yl=>?_];obtain⟨e1,e2⟩:=sI (s2 _ _ ha) yl;rw[hu]at e2;cases e2;refine#[e1,λQ k'=>?_];have c1:=p1.length;have d1:=ga.good.row _ (X_ hp);refine#[_,rfl,_,rfl,r1,_,w1,rfl,rfl,s1 _ _ hr1,by lia,by lia,?_,λp hp=>k' _ _ (ai hp) ?_]
  .rw[Yd,c1,d1];exact dD (by lia)
  .rw[Yd];exact#[p,_,rfl,ab,Paired.rep (Paired.aY p1 λ_ _ z=>z.mono (s1.trans (ai hp))) n]
 .exact sJ (s1.trans bc _ _ ha) (by simp;lia)
 .refine k H' _ (s1.trans bc) ?_;unfold fI;rw[if_pos fit];exact#[D,acc,rfl,hA,Paired.aY df λ_ _ z=>z.mono bc]
abbrev Hm:Sp:=js a_ cG (λa n=>aZ a/\1<=n/\n<=6) (bW a_) fJ
theorem Q3(T:Glob mg)(D:bx K mg "times_above" (top 38) ["block","times"]):aH P w K mg base 1 "times_above" ["block","times"] Hm:=by
 refine D.go ["block","times"] λnd H vs Q E hr h=>?_;obtain⟨v,x,u,n,rfl,⟨a,vs,rfl,ha,gB⟩,rfl,⟨ga,n1,n6⟩,k⟩:=h;refine#[_,(aM (aL gX (aO rE (bO K T.bP (pv 0)) (pv 1)) (aE T.vT)) (ax b_) (ax (aO jg (pv 0) (pv 1)))),?_];have la:=gB.length;have h6:=ga.good.h6;refine#[_,rfl,a,vs,rfl,.inl (af.of ha),_,rfl,_,_,rfl,rfl,.inl #[by lia,by lia],_,_,rfl,rfl,_,rfl,bV (λh=>?_) (λh=>?_)]
 .refine k H _ (ag.refl _) ?_;unfold fJ;rw[if_neg (by rw[<-la];intro z;have:((vs.length*n:Nat):Int)<=6:=(by lia);rw[aae]at this;lia)];rfl
 have fit:x.length*n<=6:=by
  rw[<-la];have:((vs.length*n:Nat):Int)<=6:=by rw[aae];lia
  lia
 refine#[_,rfl,_,rfl,a,_,vs,rfl,rfl,ha,by lia,by lia,?_,λp hp=>k _ _ (ai hp) ?_]
 .rw[Yd,la];exact dD (by lia)
 .unfold fJ;rw[if_pos fit,Yd];exact#[p,_,rfl,ab,Paired.rep (Paired.aY gB λ_ _ z=>z.mono (ai hp)) n]
end QS
namespace L2
open PySem PySem.Spec PyProof.Rows
theorem Q4{X:Cx}(K:ZX)(h:X.K=K:=by rfl):DG X (o_ K):=by
 subst h;intro pins s σ H x y v u Q I rx ry h;obtain⟨p,xs,i,z,rfl,rfl,hq,he,q⟩:=h;cases rx;obtain⟨t,rfl⟩:=ry;obtain⟨its,r,pl,hz⟩:=I.list hq;obtain⟨j,h1,h2,h3,h4,h5⟩:=yu he;obtain⟨w,ew,fX⟩:=r.get h2;have hl:=r.length;have hn:=o8;have fin:EP X pins σ Q w s:=#[z,H,I,fX,q]
 by_cases h0:0<=i
 .have hj:i.toNat=j:=by
   rw[seqIndex_of h0 h5]at h1;exact XW h1
  exact wpAny_getItem_list pl.isList h0 (by lia) (by rw[hj];simpa using ew) fin
 .have hj:(i+(its.toArray.size:Int)).toNat=j:=by
   rw[seqIndex_neg (by lia) h4]at h1;rw[X3,<-hl];exact XW h1
  exact wpAny_getItem_list_neg pl.isList (by lia) (by rw[X3]<;>lia) (by lia) (by rw[hj];simpa using ew) fin
end L2
namespace QS
open Qm
open PySem PySem.Spec PyProof.Rows L2
open Kyq1 (Patch)
open Qm (Rows aZ)
variable{H H':Hp}{v:V}{b:Rows}{P:Program}{w:World}{K:ZX}{mg:ZQ}{base:Heap}{aB aG aP aT c dx p:Addr}{i n:Nat}{l:Slots}{k:Qm.Tok}{a f:Str}{o:HO}{q:Kyq2.Rect}{G G':Gh}{xs:List V}{r:List (Str×V)}
inductive vV(H:Hp)(v:V)(l:List Rows):Prop|mk(a vs:_)(_:v=.ref a)(_:H a=some (.lst vs))(_:Paired (a_ H) vs l)
theorem vV.mono{p:List Rows}(s:ag H H')(h:vV H v p):vV H' v p:=by
 obtain⟨a,vs,e,q,r⟩:=h;exact#[a,vs,e,s _ _ q,Paired.aY r λ_ _ z=>z.mono s]
def jZ(n:Nat)(b:Rows):List Rows:=(List.range n).map λs=>eU s b
def Q5(n:Nat)(b:Rows):jZ (n+1) b=jZ n b++[eU n b]:=by
 unfold jZ;rw[Zp,Zz];rfl
theorem Hn(h:aZ b):∀n,aZ (kL n b)
 |0=>h
 |n+1=>(Hn h n).turned
abbrev Ho:Sp:=fO a_ aZ vV (jZ 8)
theorem Q6(T:Glob mg)(D:bx K mg "eight_ways" (top 39) ["block"])(p6:aH P w K mg base 3 "turned" ["block"] zX)(p7:aH P w K mg base 3 "mirrored" ["block"] z3):aH P w K mg base 4 "eight_ways" ["block"] Ho:=by
 refine D.go ["block","found","beginning","way","quarter"] λnd H vs Q E hr h=>?_;obtain⟨v,b,rfl,ib,g,k⟩:=h;refine#[_,(aC (aR 1 (aV eQ)) (aC (dq PassesOwn.never rfl (DJ (cU (aU (pv 0) (dO (bh p7 (au (pv 0))))))) (bQ 2) (aC (aR 3 (pv 2)) (bF (dq PassesOwn.never rfl (iJ rfl T.eX (au aw)) (bQ 4) (aC (cK (c_ X4 Yk Yl fE (pv 1) (au (pv 3)))) (bF (aR 3 (dO (bh p6 (au (pv 3))))))))))) (ax (pv 1)))),?_];refine#[Yg _,λD hD=>?_];have eD:del (upd H D (.lst [])) D=H:=cf hD;refine#[v,rfl,D,[],ab,_,rfl,v,b,rfl,by rw[eD];exact ib,g,λH3 mv s3 r3 hn=>#[(by show 2<=sizeLine;decide),λtp htp=>#[tp,rfl,#[_,aI.of ab],?_]]];rw[eD]at s3;have tD:tp≠D:=λz=>by rw[z,ab]at htp;cases htp
 have hb:∀H',ag H3 (del H' D)->H' tp=some (.tup [v,mv])->aI K H' tp [v,mv]:=λH' _ h=>aI.of h;refine DL (K:=K) (a:=tp) (xs:=[v,mv]) (λi σ H'=>c8 λv2 v3 v4=>σ=[some v,some (.ref D),v2,v3,v4]/\ag H3 (del H' D)/\H' tp=some (.tup [v,mv])/\∃acc,H' D=some (.lst acc)/\Paired (a_ (del H' D)) acc (jZ (4*i) b)) ?_ (λi σ H' _ ⟨_,_,_,_,_,h,_⟩=>aI.of h) ?_ ?_
 .refine#[none,none,none,rfl,?_,ab,[],?_,.nil]
  .intro x o e;rw[cE (λz=>by rw[z,hn]at e;cases e),ae (λz=>by rw[z]at e;rw[ae tD,]at htp;rw[e]at htp;cases htp),ae (λz=>by rw[z,hn]at e;cases e)];exact e
  .rw[ae (Ne.symm tD),ab]
 .rintro i x σ H' hi ⟨v2,v3,v4,rfl,s4,ht,acc,hA,pr⟩;obtain⟨st,i2,fs,ix,we⟩:∃st,i<2/\aZ st/\a_ (del H' D) x st/\∀j,j<4->eU (4*i+j) b=kL j st:=by
   match i,hi with
   |0,hi=>
    have e:v=x:=XW hi;subst e;exact#[b,by decide,g,(ib.mono s3).mono s4,λj hj=>by unfold eU;rw[if_pos (by lia)];congr 1;lia]
   |1,hi=>
    have e:mv=x:=XW hi;subst e;exact#[dU b,by decide,g.mirrored,r3.mono s4,λj hj=>by unfold eU;rw[if_neg (by lia)];congr 1;lia]
   |n+2,hi=>simp at hi
  refine#[_,rfl,4,rfl,by decide,by decide,jM (n:=4) (λj σ H'=>aX λwv v4=>σ=[some v,some (.ref D),some x,some wv,v4]/\ag H3 (del H' D)/\H' tp=some (.tup [v,mv])/\a_ (del H' D) wv (kL j st)/\∃acc,H' D=some (.lst acc)/\Paired (a_ (del H' D)) acc (jZ (4*i+j) b)) #[x,v4,rfl,s4,ht,ix,acc,hA,pr] ?_ ?_]
  .rintro j σ H5 hj ⟨wv,vW,rfl,s5,z9,iw,vX,kX,gC⟩;have l5:=gC.length;have l6:vX.length<=8:=by rw[l5];simp[jZ];lia
   refine#[_,rfl,.inl #[rfl,_,af.of kX],_,rfl,D,vX,_,rfl,rfl,kX,Yq l6 (by decide),?_];refine#[D,_,ab,_,rfl,wv,kL j st,rfl,by rw[cT];exact iw,Hn fs j,λH6 z s6 r6 p8=>#[z,_,rfl,?_,?_,?_,_,ab,?_]]
   .rw[cf p8];rw[cT]at s6;exact s5.trans s6
   .rw[ae tD];exact s6 _ _ (by rw[cE tD,ae tD];exact z9)
   .rw[cf p8];exact r6
   .rw[cf p8,show 4*i+(j+1)=4*i+j+1 by lia,Q5,we j hj];rw[cT]at s6;exact Paired.snoc (Paired.aY gC λ_ _ q=>q.mono s6) (iw.mono s6)
  .rintro σ H5 ⟨wv,vW,rfl,s5,z9,iw,vX,kX,gC⟩;exact#[_,_,_,rfl,s5,z9,vX,kX,gC]
 .rintro σ H' ⟨v2,v3,v4,rfl,s4,ht,acc,hA,pr⟩;exact#[_,rfl,k H' _ ((s3.trans s4).trans bc) #[D,acc,rfl,hA,Paired.aY pr λ_ _ q=>q.mono bc]]
abbrev z_:Sp:=fO a_ aZ eC List.flatten
theorem Q7:∀ {w:Nat},(∀r∈b,r.length<=w)->b.flatten.length<=b.length*w:=by
 induction b with|nil=>intro w _;simp|cons r t ih=>
  intro w h;have a:=h r (by simp);have c:=ih λx hx=>h x (by simp[hx]);rw[Yt,XY,X2,YY]
  lia
theorem Q8(g:aZ b):b.flatten.length<=36:=by
 have h:=Q7 (b:=b) (w:=6) λr hr=>by rw[g.good.row r hr];exact g.good.w6
 have:=g.good.h6
 lia
theorem Q9(T:Glob mg)(D:bx K mg "patches_of" (top 41) ["block"]):aH P w K mg base 1 "patches_of" ["block"] z_:=by
 refine D.go ["block","found","row"] λnd H vs Q E hr h=>?_;obtain⟨v,b,rfl,⟨a,vs,rfl,ha,pr⟩,g,k⟩:=h;refine#[_,(aC (aR 1 (aV eQ)) (aC (dq PassesOwn.never rfl (gq (pv 0)) (bQ 2) (bF (cK (c_ X4 Zt Zu yE (pv 1) (au (pv 2)))))) (ax (pv 1)))),?_];refine#[Yg _,λD hD=>?_];have sD:ag H (upd H D (.lst [])):=ai hD;have aD:a≠D:=bH ha hD;refine#[_,rfl,a,rfl,#[vs,af.of (sD _ _ ha)],kF (K:=K) (a:=a) (xs:=vs) (λi σ H'=>∃v2,σ=[some (.ref a),some (.ref D),v2]/\ag H (del H' D)/\∃acc,H' D=some (.lst acc)/\Paired (de (del H' D)) acc (b.take i).flatten) ?_ (λi σ H' _ ⟨_,_,h,_⟩=>af.of (h.trans bc _ _ ha)) ?_ ?_]
 .refine#[none,rfl,by rw[cf hD];exact ag.refl _,[],ab,.nil]
 .rintro i x σ H' hi ⟨v2,rfl,s1,acc,hA,df⟩;obtain⟨row,hrow,r,ws,rfl,hr',hX⟩:=Paired.getL pr hi;have l1:=df.length;have l2:=hX.length;have l3:=Q8 g;have l4:(b.take (i+1)).flatten.length<=36:=by
   refine X8 ?_ l3;have e:=congrArg List.flatten (Zc (i+1) b);rw[ZO]at e;rw[<-e,XY]
   lia
  rw[take_snoc hrow,ZO,XY]at l4;simp at l4;refine#[_,rfl,.inl #[rfl,_,af.of hA],_,rfl,D,r,acc,ws,rfl,rfl,hA,(s1.trans bc) _ _ hr',dD (by simp at l1;lia),#[_,rfl,?_,_,ab,?_]]
  .rw[cT];exact s1
  .rw[cT,take_snoc hrow,ZO];simp only[Yt,List.flatten_nil,YC];exact Paired.app df (Paired.aY hX λ_ _ z=>z.mono s1)
 .rintro σ H' ⟨v2,rfl,s1,acc,hA,df⟩;rw[pr.length,YO]at df;exact#[_,rfl,k H' _ (s1.trans bc) #[D,acc,rfl,hA,Paired.aY df λ_ _ z=>z.mono bc]]
def j0(p:Patch):PyData:=.tuple [.int p.d,.int p.a,.int p.b]
def eE(r:List Patch):PyData:=.list (r.map j0)
def eF(b:Rows):PyData:=.list (b.map eE)
def Q_{p:Patch}(h:de H v p):Dp K H v (j0 p):=by
 obtain⟨a,rfl,e⟩:=h;exact .tup (aI.of e) (.cons (.int _) (.cons (.int _) (.cons (.int _) .nil)))
theorem Aa{α:Type}{R:V->α->Prop}{f:α->PyData}(h:∀v x,R v x->Dp K H v (f x)):∀ {vs:List V} {xs:List α},Paired R vs xs->ny K H vs (xs.map f)
 |_,_,.nil=>.nil
 |_,_,.cons r t=>.cons (h _ _ r) (Aa h t)
def Ab{p:List Patch}(h:eC H v p):Dp K H v (eE p):=by
 obtain⟨a,vs,rfl,e,pr⟩:=h;exact .lst (af.of e) (Aa (f:=j0) (λ_ _ h=>Q_ h) pr)
def vY{p:Rows}(h:a_ H v p):Dp K H v (eF p):=by
 obtain⟨a,vs,rfl,e,pr⟩:=h;exact .lst (af.of e) (Aa (f:=eE) (λ_ _ h=>Ab h) pr)
theorem pZ{α:Type}{f:α->PyData}(h:∀x,(f x).canLay0=true):∀l:List α,PyData.canLayAll0 (l.map f)=true
 |[]=>by simp[PyData.canLayAll0]
 |x::l=>by simp[PyData.canLayAll0,h x,pZ h l]
def Ra(p:Patch):(j0 p).canLay0=true:=by simp[j0,PyData.canLay0,PyData.canLayAll0]
def Hq(r:List Patch):(eE r).canLay0=true:=by
 unfold eE;rw[PyData.canLay0];exact pZ Ra r
def Rb(b:Rows):(eF b).canLay0=true:=by
 unfold eF;rw[PyData.canLay0];exact pZ Hq b
theorem Ac{α:Type}{f:α->PyData}(h:∀x,(f x).depth<=n):∀l:List α,PyData.depthAll (l.map f)<=n
 |[]=>by simp[PyData.depthAll]
 |x::l=>by
  have a:=h x;have b:=Ac h l;simp[PyData.depthAll]
  lia
def Rc(p:Patch):(j0 p).depth<=1:=by simp[j0,PyData.depth,PyData.depthAll]
theorem Hr(r:List Patch):(eE r).depth<=2:=by
 have:=Ac Rc r;unfold eE;rw[PyData.depth]
 lia
theorem Rf(b:Rows):(eF b).depth<=3:=by
 have:=Ac Hr b;unfold eF;rw[PyData.depth]
 lia
theorem vZ(b:Rows):SeqAt.shaped (eF b)=true:=by
 unfold SeqAt.shaped;rw[Rb,Yc (by have:=Rf b;lia)];rfl
theorem Ad{α:Type}{f:α->PyData}(h:∀x y,PyData.eqv (f x) (f y)=true↔x=y):∀l m:List α,PyData.eqvAll (l.map f) (m.map f)=true↔l=m
 |[],[]=>by simp[PyData.eqvAll]
 |[],_::_=>by simp[PyData.eqvAll]
 |_::_,[]=>by simp[PyData.eqvAll]
 |x::l,y::m=>by simp[PyData.eqvAll,h x y,Ad h l m]
theorem Rg(p q:Patch):PyData.eqv (j0 p) (j0 q)=true↔p=q:=by
 cases p;cases q;simp[j0,PyData.eqv,PyData.eqvAll]
 lia
def Ae(p q:List Patch):PyData.eqv (eE p) (eE q)=true↔p=q:=by
 unfold eE;rw[PyData.eqv];exact Ad Rg p q
def Af(p q:Rows):PyData.eqv (eF p) (eF q)=true↔p=q:=by
 unfold eF;rw[PyData.eqv];exact Ad Ae p q
instance:DecidableEq Patch:=λp q=>by
 cases p with|mk a b c=>
  cases q with|mk x y z=>
   exact decidable_of_iff (a=x/\b=y/\c=z) #[λ⟨h1,h2,h3⟩=>by rw[h1,h2,h3],λh=>by injection h with h1 h2 h3;exact#[h1,h2,h3]]
def sM(b:Rows)(n s:Nat):Nat:=if eU s b=b then n|||1<<<s else n
def eG(b:Rows)(n:Nat):Nat:=(List.range n).foldl (sM b) 0
def Ag(b:Rows)(n:Nat):eG b (n+1)=sM b (eG b n) n:=by
 unfold eG;rw[Zp,ZC];rfl
theorem v8(b:Rows):∀n j,(eG b n).testBit j=true↔j<n/\eU j b=b
 |0,j=>by simp[eG]
 |n+1,j=>by
  rw[Ag];unfold sM;split
  .rename_i h;rw[ZF,Y6,v8 b n,zI,Yx];constructor
   .rintro(⟨a,c⟩|rfl)
    .exact#[by lia,c]
    .exact#[by lia,h]
   .rintro⟨a,c⟩;by_cases q:j=n
    .exact .inr q
    .exact .inl #[by lia,c]
  .rename_i h;rw[v8 b n];constructor
   .rintro⟨a,c⟩;exact#[by lia,c]
   .rintro⟨a,c⟩;refine#[?_,c];rcases Nat.lt_or_ge j n with q|q
    .exact q
    .have:j=n:=by lia
     subst this;exact absurd c h
theorem Rh(b:Rows):eG b 8<256:=by
 apply Z8;intro h;have e:eG b 8≠0:=by lia
 have q:=(v8 b 8 _).mp (Nat.testBit_log2 e);have:eG b 8<2^8:=(Nat.log2_lt e).mp q.1
 lia
def Ri(g:aZ b):Kyq1.fixing (Qm.aq b)=f9 (eG b 8):=by
 rw[PR g.good];unfold f9;apply Y3;intro s hs;have q:=v8 b 8 s;have hs:=Yb.mp hs;by_cases h:eU s b=b
 .rw[Yc h,q.mpr #[hs,h]]
 .rw[Yh h];cases z:(eG b 8).testBit s with|false=>rfl|true=>exact absurd (q.mp z).2 h
theorem v9(a b:Nat):Builtin.bitOr (a:Int) (b:Int)=((a|||b:Nat):Int):=by
 rw[y3.Oa (by lia) (by lia)];simp
abbrev Hs:Sp:=fO a_ aZ cG (λb=>eG b 8)
theorem Rj(T:Glob mg)(D:bx K mg "fixing_bits" (top 40) ["block"])(Ah:aH P w K mg base 4 "eight_ways" ["block"] Ho):aH P w K mg base 5 "fixing_bits" ["block"] Hs:=by
 refine D.go ["block","bits","number","way"] λnd H vs Q E hr h=>?_;obtain⟨v,b,rfl,ib,g,k⟩:=h;refine#[_,(aC (aR 1 aw) (aC (dq PassesOwn.never rfl (N2 rfl T.He (au (bh Ah (au (pv 0))))) (uI (n:=2) rfl (gj (bQ 2) (gj (bQ 3) m_))) (bF (gS (aL (Ex hr.units) (pv 3) (pv 0)) (bF (aR 1 (aO uQ (pv 1) (aO yg aw (pv 2))))) jK))) (ax (pv 1)))),?_];refine#[_,rfl,v,b,rfl,ib,g,λH1 z s1 ⟨a,vs,ez,ha,pr⟩=>?_];subst ez;have l:=pr.length;refine#[a,vs,rfl,af.of ha,E8 (J:=yZ K a) (n:=8) (λi σ H'=>aX λv2 v3=>σ=[some v,some (.int (eG b i:Nat)),v2,v3]/\ag H1 H') #[none,none,rfl,ag.refl _] ?_ ?_]
 .rintro i σ H' hi ⟨v2,v3,rfl,s2⟩;have ha':=s2 _ _ ha;have hi':i<vs.length:=by rw[l];simp[jZ];lia
  refine#[#[vs,_,af.of ha',XT hi'],λx h_ ⟨t,y,ex,nt,eH,ey⟩=>?_];subst ex eH;have ey:=ey vs (af.of ha');obtain⟨wy,hw,iw⟩:=Paired.getL pr ey;have hw:eU i b=wy:=by
   unfold jZ at hw;rw[X1,Yn hi]at hw;exact XW hw
  subst hw;have s3:ag H1 (upd H' t (.tup [.int (i:Nat),y])):=s2.trans (ai nt);refine#[t,_,rfl,aI.of ab,rfl,_,_,rfl,_,_,rfl,rfl,?_];refine#[_,rfl,_,rfl,eF (eU i b),eF b,vY (iw.mono s3),vY (ib.mono (s1.trans s3)),vZ _,vZ _,_,rfl,bg (λh=>?_) (λh=>?_)]
  .have h:=(Af _ _).mp h;refine#[_,rfl,_,rfl,_,_,rfl,rfl,#[by lia,by lia,by decide],_,_,rfl,rfl,?_];refine#[some (.int i),some y,?_,s3];have e:Builtin.bitOr ((eG b i:Nat):Int) (1*2^(i:Int).toNat)=((eG b (i+1):Nat):Int):=by
    rw[Ag];unfold sM;rw[if_pos h,Yd,Int.one_mul,Z3,<-v9]
    congr 1
   show[some v,some (V.int (Builtin.bitOr ((eG b i:Nat):Int) (1*2^(i:Int).toNat))),some (V.int i),some y]=_;rw[e]
  .have h:¬eU i b=b:=λz=>h ((Af _ _).mpr z);refine#[some (.int i),some y,?_,s3];rw[Ag];unfold sM;rw[if_neg h];rfl
 .rintro σ H' ⟨v2,v3,rfl,s2⟩;refine#[#[vs,af.of (s2 _ _ ha),by rw[l];simp[jZ]],_,rfl,k H' _ (s1.trans s2) rfl]
def jt(l:List Nat)(c:Nat):List Nat:=l.set (c-1) (l.getD (c-1) 0+1)
def kY(l:List Nat)(p:Patch):List Nat:=jt (jt l p.a) p.b
def halves(ps:List Patch):List Nat:=ps.foldl kY (List.replicate 9 0)
inductive dP(H:Hp)(v:V)(l:List Nat):Prop|mk(a:_)(_:v=.ref a)(_:H a=some (.lst (l.map λn=>.int (n:Nat))))
def dP.mono{l:List Nat}(s:ag H H')(h:dP H v l):dP H' v l:=by
 obtain⟨a,e,q⟩:=h;exact#[a,e,s _ _ q]
abbrev Ht:Sp:=fO a_ aZ dP (λb=>halves b.flatten)
def Hu(l:List Nat)(p:Patch):(kY l p).length=l.length:=by simp[kY,jt]
def Rk{ps:List Patch}{p:Patch}(h:ps[i]?=some p):halves (ps.take (i+1))=kY (halves (ps.take i)) p:=by
 unfold halves;rw[take_snoc h,ZC];rfl
theorem sO:∀(ps:List Patch) (l:List Nat),l.length=9->(ps.foldl kY l).length=9
 |[],l,h=>h
 |p::ps,l,h=>sO ps _ (by rw[Hu];exact h)
def map_getD{l:List Nat}(h:i<l.length):(l.map λn=>V.int (n:Nat))[i]?=some (V.int (l.getD i 0:Nat)):=by
 rw[X1,XT h,XU,XT h];rfl
theorem map_set(l:List Nat)(i n:Nat):(l.map λn=>V.int (n:Nat)).set i (V.int ((n:Nat):Int))=(l.set i n).map λn=>V.int (n:Nat):=by
 rw[List.map_set]
theorem Rl(T:Glob mg)(D:bx K mg "halves_of" (top 42) ["block"])(p9:aH P w K mg base 1 "patches_of" ["block"] z_):aH P w K mg base 2 "halves_of" ["block"] Ht:=by
 refine D.go ["block","found","patch","colour"] λnd H vs Q E hr h=>?_;obtain⟨v,b,rfl,ib,g,k⟩:=h;refine#[_,(aC (aR 1 (aO jg (aV (au aw)) aw)) (aC (dq PassesOwn.never rfl (gq (dO (bh p9 (au (pv 0))))) (bQ 2) (bF (dq PassesOwn.never rfl (DJ (l7 (E9 K) (pv 2) (gY aw) yt)) (bQ 3) (bF (LA (pv 1) (aO dM (pv 3) aw) (Q4 K) aw LB set_list))))) (ax (pv 1)))),?_];refine#[bu,λZ hZ=>#[Z,9,[.int 0],rfl,rfl,ab,by decide,by decide,(by show 1*9<=sizeLine;decide),λD hD=>?_]];have sZ:ag H (upd H Z (.lst [.int 0])):=ai hZ;have eD:del (upd (upd H Z (.lst [.int 0])) D (.lst (List.replicate (Int.toNat 9) [V.int 0]).flatten)) D=upd H Z (.lst [.int 0]):=cf hD;refine#[D,_,ab,_,rfl,v,b,rfl,by rw[eD];exact ib.mono sZ,g,λH1 z s1 ⟨a,vs,ez,ha,pr⟩ hn=>?_];rw[eD]at s1;subst ez;have aD:a≠D:=bH ha hn;have mem:∀p∈b.flatten,Kyq1.okPatch p=true:=λp hp=>by
  obtain⟨row,h1,h2⟩:=aaB.mp hp;exact g.ok row h1 p h2
 refine#[a,rfl,#[vs,af.of (by rw[ae aD];exact ha)],kF (K:=K) (a:=a) (xs:=vs) (λi σ H'=>aX λv2 v3=>σ=[some v,some (.ref D),v2,v3]/\ag H1 (del H' D)/\H' D=some (.lst ((halves (b.flatten.take i)).map λn=>.int (n:Nat)))) #[none,none,rfl,by rw[cf hn];exact ag.refl _,by rw[ab];rfl] (λi σ H' _ ⟨_,_,_,h,_⟩=>af.of (h.trans bc _ _ ha)) ?_ ?_]
 .rintro i x σ H' hi ⟨v2,v3,rfl,s2,hA⟩;obtain⟨p,hp,q,rfl,hq⟩:=Paired.getL pr hi;have hq':=s2.trans bc _ _ hq;obtain⟨a1,a2,b1,b2,_⟩:=Qm.kM (mem p (X_ hp));have Hv:(halves (b.flatten.take i)).length=9:=sO _ _ rfl;refine#[_,rfl,_,rfl,q,_,rfl,aI.of hq',(by show ¬(1=0/\3=3);decide),λt ht=>#[t,rfl,#[_,aI.of ab],?_]];have tD:t≠D:=λz=>by rw[z,hA]at ht;cases ht
  have cut:eS [V.int (p.d:Nat),V.int (p.a:Nat),V.int (p.b:Nat)] (some 1) none=[V.int (p.a:Nat),V.int (p.b:Nat)]:=rfl;have one:∀(l:List Nat) (c:Nat) (σ:L2.St) (H5:Hp) (En:Ends),l.length=9->1<=c->c<=9->σ[1]?=some (some (V.ref D))->σ[3]?=some (some (V.int (c:Nat)))->H5 D=some (.lst (l.map λn=>.int (n:Nat)))->
    En.nx σ (upd H5 D (.lst ((jt l c).map λn=>.int (n:Nat))))->
    DF (lX 1) (iK (gr λi j=>.int (i-j)) (lX 3) (tC (.int 1))) (tC (.int 1)) (o_ K) (DH λi j=>i+j) Em En σ H5:=by
   intro l c σ H5 En hl c1 c9 e1 e3 h5 hN;refine#[_,e1,_,e3,_,_,rfl,rfl,D,_,_,_,rfl,rfl,af.of h5,at_of (j:=c-1) (by lia) (map_getD (by lia)),_,_,rfl,rfl,D,_,_,c-1,rfl,rfl,h5,?_,?_]
   .unfold fW;rw[if_pos (by lia),if_pos (by simp;lia)]
    congr 1
    lia
   .have e:V.int ((l.getD (c-1) 0:Nat)+1:Int)=V.int ((l.getD (c-1) 0+1:Nat):Int):=rfl;rw[e,map_set];exact hN
  refine DL (K:=K) (a:=t) (xs:=[V.int (p.a:Nat),V.int (p.b:Nat)]) (λj σ H'=>∃v3,σ=[some v,some (.ref D),some (.ref q),v3]/\ag H1 (del H' D)/\H' t=some (.tup [V.int (p.a:Nat),V.int (p.b:Nat)])/\H' D=some (.lst ((([p.a,p.b].take j).foldl jt (halves (b.flatten.take i))).map λn=>.int (n:Nat)))) #[v3,rfl,?_,ab,?_] (λj σ H' _ ⟨_,_,_,h,_⟩=>aI.of h) ?_ ?_
  .intro x o e;have e':=s2 _ _ e;have nx:=(iP e').1;rw[cE nx]at e';rw[cE nx,ae (λz=>by rw[z,ht]at e';cases e')];exact e'
  .rw[ae (Ne.symm tD)];exact hA
  .rintro j x σ H5 hj ⟨Rm,rfl,s5,h5,kX⟩;have fin:∀l:List Nat,ag H1 (del (upd H5 D (.lst (l.map λn=>.int (n:Nat)))) D)/\upd H5 D (.lst (l.map λn=>.int (n:Nat))) t=some (.tup [V.int (p.a:Nat),V.int (p.b:Nat)]):=λl=>#[by rw[cT];exact s5,by rw[ae tD];exact h5]
   match j,hj with
   |0,hj=>
    have e:V.int (p.a:Nat)=x:=XW hj;subst e;refine one (halves (b.flatten.take i)) p.a _ H5 _ Hv a1 a2 rfl rfl kX #[_,rfl,(fin _).1,(fin _).2,?_];rw[ab];rfl
   |1,hj=>
    have e:V.int (p.b:Nat)=x:=XW hj;subst e;refine one (jt (halves (b.flatten.take i)) p.a) p.b _ H5 _ (by simp[jt];exact Hv) b1 b2 rfl rfl kX #[_,rfl,(fin _).1,(fin _).2,?_];rw[ab];rfl
   |n+2,hj=>simp at hj
  .rintro σ H5 ⟨Rm,rfl,s5,h5,kX⟩;refine#[_,_,rfl,s5,?_];rw[kX,Rk hp];rfl
 .rintro σ H' ⟨v2,v3,rfl,s2,hA⟩;rw[pr.length,YO]at hA;exact#[_,rfl,k H' _ ((sZ.trans s1).trans (s2.trans bc)) #[D,rfl,hA]]
open Kyq1 (Patch letter)
noncomputable def kZ:Qm.Tok->Str
 |.patch _=>"patch"
 |.name _=>"name"
 |.turn=>"turned"
 |.mirror=>"mirrored"
 |.beside=>"beside"
 |.above=>"above"
 |.across _=>"times beside"
 |.down _=>"times above"
def sP(H:Hp)(u:V):Qm.Tok->Prop
 |.patch p=>de H u p
 |.name k=>u=.int (k:Nat)
 |.across n=>u=.int (n:Nat)
 |.down n=>u=.int (n:Nat)
 |_=>u=.int 0
inductive eJ(H:Hp)(v:V)(k:Qm.Tok):Prop|mk(a u:_)(_:v=.ref a)(_:H a=some (.tup [.str (kZ k),u,.int (k.len:Nat)]))(_:sP H u k)
theorem sP.mono(s:ag H H')(h:sP H v k):sP H' v k:=by
 cases k with|patch p=>exact de.mono s h|_=>exact h
theorem eJ.mono(s:ag H H')(h:eJ H v k):eJ H' v k:=by
 obtain⟨a,u,e,q,r⟩:=h;exact#[a,u,e,s _ _ q,r.mono s]
def bW.mono{α:Type}{R:Hp->V->α->Prop}(m:∀H H' v x,ag H H'->R H v x->R H' v x){o:Option α}(s:ag H H')(h:bW R H v o):bW R H' v o:=by
 cases o with|none=>exact h|some x=>exact m _ _ _ _ s h
abbrev nY:List (Key×V):=[(.inl 120,.str "times beside"),(.inl 121,.str "times above")]
abbrev nZ:List (Key×V):=[(.inl 114,.str "turned"),(.inl 109,.str "mirrored"),(.inl 124,.str "beside"),(.inl 45,.str "above")]
abbrev n8:List (Key×V):=[(.inl 47,.int 1),(.inl 92,.int 2)]
abbrev ju:List (Key×V):=[(.inr "patch",.int 0),(.inr "name",.int 0),(.inr "turned",.int 1),(.inr "mirrored",.int 1),(.inr "times beside",.int 1),(.inr "times above",.int 1),(.inr "beside",.int 2),(.inr "above",.int 2)]
structure p_(P:Program)(w:World)(K:ZX)(mg:ZQ)(aT aP aG aB:Addr):Prop extends Glob mg where
 Hw:a8 mg "UPPER_A" 65
 Rn:a8 mg "UPPER_I" 73
 Ro:a8 mg "DIGIT_0" 48
 Rp:a8 mg "DIGIT_2" 50
 Rq:a8 mg "DIGIT_6" 54
 Hx:a8 mg "LOWER_A" 97
 Rr:a8 mg "LOWER_H" 104
 Rt:a8 mg "DOLLAR" 36
 v_:mg "TIMES_SIGNS"=some (.ref aT)
 wc:jQ P w K aT nY
 wg:mg "PLAIN_SIGNS"=some (.ref aP)
 wj:jQ P w K aP nZ
 wm:mg "PARTING_SIGNS"=some (.ref aG)
 wq:jQ P w K aG n8
 Ai:mg "BLOCKS_BEHIND"=some (.ref aB)
 Aj:jQ P w K aB ju
def mF{k k':Key}{r:List (Key×V)}(h:¬k'=k):bN ((k',v)::r) k=bN r k:=by
 unfold bN;rw[Zg,Yh (show ¬(k',v).1=k from h)]
theorem key_ne{m:Int}(h:¬(n:Int)=m):¬(Sum.inl m:Key)=Sum.inl ((n:Nat):Int):=λz=>by injection z with z;lia
theorem Hy(b:Nat):bN nY (.inl (b:Nat))=if b=120 then some (.str "times beside")else if b=121 then some (.str "times above")else none:=by
 unfold nY;by_cases h1:b=120
 .subst h1;rfl
 rw[if_neg h1,mF (key_ne (m:=120) (by lia))];by_cases h2:b=121
 .subst h2;rfl
 rw[if_neg h2,mF (key_ne (m:=121) (by lia))];rfl
theorem Ru(b:Nat):bN nZ (.inl (b:Nat))=if b=114 then some (.str "turned")else if b=109 then some (.str "mirrored")else if b=124 then some (.str "beside")else if b=45 then some (.str "above")else none:=by
 unfold nZ;by_cases h1:b=114
 .subst h1;rfl
 rw[if_neg h1,mF (key_ne (m:=114) (by lia))];by_cases h2:b=109
 .subst h2;rfl
 rw[if_neg h2,mF (key_ne (m:=109) (by lia))];by_cases h3:b=124
 .subst h3;rfl
 rw[if_neg h3,mF (key_ne (m:=124) (by lia))];by_cases h4:b=45
 .subst h4;rfl
 rw[if_neg h4,mF (key_ne (m:=45) (by lia))];rfl
theorem Rv(b:Nat):bN n8 (.inl (b:Nat))=if b=47 then some (.int 1)else if b=92 then some (.int 2)else none:=by
 unfold n8;by_cases h1:b=47
 .subst h1;rfl
 rw[if_neg h1,mF (key_ne (m:=47) (by lia))];by_cases h2:b=92
 .subst h2;rfl
 rw[if_neg h2,mF (key_ne (m:=92) (by lia))];rfl
def Rw(k:Qm.Tok):bN ju (.inr (kZ k))=some (.int (k.arity:Nat)):=by
 cases k with|patch _=>show bN ju (.inr "patch")=some (.int 0);decide+kernel|name _=>show bN ju (.inr "name")=some (.int 0);decide+kernel|turn=>show bN ju (.inr "turned")=some (.int 1);decide+kernel|mirror=>show bN ju (.inr "mirrored")=some (.int 1);decide+kernel|beside=>show bN ju (.inr "beside")=some (.int 2);decide+kernel|above=>show bN ju (.inr "above")=some (.int 2);decide+kernel|across _=>show bN ju (.inr "times beside")=some (.int 1);decide+kernel|down _=>show bN ju (.inr "times above")=some (.int 1);decide+kernel
def cH(b:Nat):Nat:=(letter b).getD 0
def wt{b:Nat}(h:65<=b/\b<=73):letter b=some (b-64)/\cH b=b-64:=by
 have e:letter b=some (b-64):=by unfold letter;rw[if_pos h]
 exact#[e,by unfold cH;rw[e];rfl]
def wu{b:Nat}(h:¬(65<=b/\b<=73)):letter b=none/\cH b=0:=by
 have e:letter b=none:=jU h;exact#[e,by unfold cH;rw[e];rfl]
def sQ{b:Nat}(h:cH b≠0):letter b=some (cH b):=by
 by_cases q:65<=b/\b<=73
 .rw[(wt q).1,(wt q).2]
 .exact absurd (wu q).2 h
theorem wz{b:Nat}(h:cH b=0):letter b=none:=by
 by_cases q:65<=b/\b<=73
 .have:=(wt q).2;lia
 .exact(wu q).1
def k4(d:Nat):List Nat->Option Qm.Tok
 |i::j::_=>(match letter i,letter j with
  |some p,some q=>if p=q then none else some (.patch #[d,p,q])
  |_,_=>none)
 |_=>none
noncomputable def qa(b n:Nat):Option Qm.Tok:=if(b=120\/b=121)/\50<=n/\n<=54 then some (if b=120 then .across (n-48)else .down (n-48))else if b=36/\97<=n/\n<=104 then some (.name (n-97))else none
abbrev Ak:Sp:=fO cG (λ_=>True) cG cH
theorem Rx(T:p_ P w K mg aT aP aG aB)(D:bx K mg "colour_of" (top 56) ["byte"]):aH P w K mg base 1 "colour_of" ["byte"] Ak:=by
 refine D.go ["byte"] λnd H vs Q E hr h=>?_;obtain⟨v,b,rfl,rfl,_,k⟩:=h;refine#[_,(aM (uS dN dN (aE T.Hw) (pv 0) (aE T.Rn)) (ax (aO bS (aO dM (pv 0) (aE T.Hw)) aw)) (ax aw)),?_];refine#[_,rfl,_,_,rfl,rfl,_,rfl,bV (λh1=>?_) (λh1=>?_)]
 .refine#[_,_,rfl,rfl,_,rfl,bV (λh2=>?_) (λh2=>?_)]
  .refine#[_,rfl,_,_,rfl,rfl,_,_,rfl,rfl,k H _ (ag.refl _) ?_];rw[(wt (b:=b) (by lia)).2];show V.int ((b:Int)-65+1)=V.int ((b-64:Nat):Int);rw[show(b:Int)-65+1=((b-64:Nat):Int) by lia]
  .refine k H _ (ag.refl _) ?_;rw[(wu (b:=b) (by lia)).2];rfl
 .refine#[_,rfl,g8 (k H _ (ag.refl _) ?_)];rw[(wu (b:=b) (by lia)).2];rfl
abbrev Hz:Sp:=js cG dP (λd _=>d≠0) (bW eJ) k4
theorem Ry(T:p_ P w K mg aT aP aG aB)(D:bx K mg "parted_token" (top 57) ["parting","letters"])(n_:aH P w K mg base 1 "colour_of" ["byte"] Ak):aH P w K mg base 2 "parted_token" ["parting","letters"] Hz:=by
 refine D.go ["parting","letters","first","second"] λnd H vs Q E hr h=>?_;obtain⟨v,d,u,l,rfl,rfl,⟨a,rfl,ha⟩,hd,k⟩:=h;refine#[_,(aM (aL gu (bO K T.bP (pv 1)) aw) (ax b_) (aC (aR 2 (bh n_ (au (a0 K (pv 1) aw)))) (aC (aR 3 (bh n_ (au (a0 K (pv 1) aw)))) (aM (PW.pt (m7 (aL bL (pv 2) aw) (m7 (aL bL (pv 3) aw) (o4 (aL bL (pv 2) (pv 3)))))) (ax b_) (ax (cU (bC i_ (aU (cU (bC (pv 0) (aU (pv 2) (pv 3)))) aw)))))))),?_];refine#[_,rfl,a,_,rfl,.inl (af.of ha),_,_,rfl,rfl,_,rfl,bV (λh1=>?_) (λh1=>?_)]
 .rw[XX]at h1;refine k H _ (ag.refl _) ?_
  match l,h1 with
  |[],_=>rfl
  |[_],_=>rfl
  |_::_::_,h1=>simp at h1;lia
 rw[XX]at h1
 match l,h1,ha,k with
 |[],h1,_,_=>simp at h1
 |[_],h1,_,_=>simp at h1
 |i::j::r,_,ha,k=>
  refine#[_,rfl,a,_,_,_,rfl,rfl,af.of ha,cB (j:=0) rfl,_,i,rfl,rfl,trivial,λH1 z1 s1 r1=>?_];cases r1;refine#[_,rfl,a,_,_,_,rfl,rfl,af.of (s1 _ _ ha),cB (j:=1) rfl,_,j,rfl,rfl,trivial,λH2 z2 s2 r2=>?_];cases r2;have s12:=s1.trans s2;have ay:(cH i=0\/cH j=0\/cH i=cH j)->k4 d (i::j::r)=none:=by
   intro h;unfold k4;simp only;rcases h with h|h|h
   .rw[wz h]
   .rw[wz h];cases letter i<;>rfl
   .by_cases q:cH i=0
    .rw[wz q]
    .rw[sQ q,sQ (b:=j) (by lia)];simp only;rw[if_pos h]
  refine#[_,rfl,rfl,_,rfl,bg (λh2=>jj ?_) (λh2=>?_)]
  .refine k H2 _ s12 ?_;rw[ay (.inl (by simpa using h2))];rfl
  have n1:¬cH i=0:=by simpa using h2
  refine#[_,rfl,rfl,_,rfl,bg (λh3=>jj ?_) (λh3=>?_)]
  .refine k H2 _ s12 ?_;rw[ay (.inr (.inl (by simpa using h3)))];rfl
  have n2:¬cH j=0:=by simpa using h3
  refine#[_,rfl,_,rfl,rfl,_,rfl,bg (λh4=>?_) (λh4=>?_)]
  .refine k H2 _ s12 ?_;rw[ay (.inr (.inr (by simp at h4;lia)))];rfl
  have n3:¬cH i=cH j:=by simp at h4;lia
  refine#[_,rfl,_,rfl,_,rfl,(by show 3<=sizeLine;decide),λt ht=>#[(by show 3<=sizeLine;decide),λq hq=>k _ _ (s12.trans ((ai ht).trans (ai hq))) ?_]];have e:k4 d (i::j::r)=some (.patch #[d,cH i,cH j]):=by
   unfold k4;simp only;rw[sQ n1,sQ n2];simp only;rw[if_neg n3]
  rw[e];refine#[q,.ref t,rfl,?_,t,rfl,?_]
  .rw[ab];have e3:(Qm.Tok.patch #[d,cH i,cH j]).len=3:=by show(if d=0 then 1 else 3)=3;rw[if_neg hd]
   rw[e3];rfl
  .rw[ae (λz=>by rw[z,ab]at hq;cases hq),ab]
abbrev HA:Sp:=js cG cG (λ_ _=>True) (bW eJ) qa
theorem Rz(T:p_ P w K mg aT aP aG aB)(D:bx K mg "two_byte_token" (top 58) ["sign","behind"]):aH P w K mg base 1 "two_byte_token" ["sign","behind"] HA:=by
 refine D.go ["sign","behind"] λnd H vs Q E hr h=>?_;obtain⟨v,b,u,n,rfl,rfl,rfl,_,k⟩:=h;refine#[_,(aM (PW.pt (rp (xY (zb T.wc (pv 0) (mh rfl T.v_))) (rn (uS dN dN (aE T.Rp) (pv 1) (aE T.Rq))))) (ax (cU (bC (vt T.wc (mh rfl T.v_) (pv 0)) (aU (aO dM (pv 1) (aE T.Ro)) aw)))) (aM (PW.pt (rp (aL bL (pv 0) (aE T.Rt)) (rn (uS dN dN (aE T.Hx) (pv 1) (aE T.Rr))))) (ax (cU (bC i_ (aU (aO dM (pv 1) (aE T.Hx)) aw)))) (ax b_))),?_];have second:¬((b=120\/b=121)/\50<=n/\n<=54)->∀t,t=DA (DB (Dx (rF (iK DS (lX 0) (tC (.int 36)))) (rF (yj (gr λi j=>.bl (decide (i<=j))) (gr λi j=>.bl (decide (i<=j))) (tC (.int 97)) (lX 1) (tC (.int 104))))) (uH (D6 (lZ (tC (.str "name")) (lZ (iK (gr λi j=>.int (i-j)) (lX 1) (tC (.int 97))) (lZ (tC (.int 2)) jb))))) Dz) (uH (tC .ay))->t {nx:=λ_ H'=>Q .ay H',rt:=Q} [some (.int (b:Nat)),some (.int (n:Nat))] H:=by
  rintro hno _ rfl;have e:qa b n=if b=36/\97<=n/\n<=104 then some (.name (n-97))else none:=by unfold qa;rw[if_neg hno]
  refine#[_,rfl,rfl,_,rfl,bg (λh1=>?_) (λh1=>g8 ?_)]
  .have h1:b=36:=by simp at h1;lia
   refine#[_,rfl,_,_,rfl,rfl,_,rfl,bg (λh2=>?_) (λh2=>#[_,rfl,g8 ?_])]
   .have h2:(97:Int)<=n:=Yi h2;refine#[_,_,rfl,rfl,_,rfl,bV (λh3=>?_) (λh3=>?_)]
    .refine#[_,rfl,_,_,rfl,rfl,(by show 3<=sizeLine;decide),λq hq=>k _ _ (ai hq) ?_];rw[e,if_pos (by lia)];refine#[q,.int ((n:Int)-97),rfl,ab,?_];show V.int ((n:Int)-97)=V.int ((n-97:Nat):Int);rw[show(n:Int)-97=((n-97:Nat):Int) by lia]
    .refine k H _ (ag.refl _) ?_;rw[e,if_neg (by lia)];rfl
   .have h2:¬(97:Int)<=n:=λz=>h2 (Yc z);refine k H _ (ag.refl _) ?_;rw[e,if_neg (by lia)];rfl
  .have h1:¬b=36:=by simp at h1;lia
   refine k H _ (ag.refl _) ?_;rw[e,if_neg (by lia)];rfl
 refine#[_,rfl,.inl (b:Nat),rfl,rfl,_,rfl,bg (λh1=>?_) (λh1=>g8 ?_)]
 .have hv:=Hy b;have h1:(bN nY (.inl (b:Nat))).isSome=true:=h1;have hb:b=120\/b=121:=by
   rw[hv]at h1;by_cases q:b=120
   .exact .inl q
   .rw[if_neg q]at h1;by_cases q2:b=121
    .exact .inr q2
    .rw[if_neg q2]at h1;cases h1
  refine#[_,rfl,_,_,rfl,rfl,_,rfl,bg (λh2=>?_) (λh2=>#[_,rfl,g8 ?_])]
  .have h2:(50:Int)<=n:=Yi h2;refine#[_,_,rfl,rfl,_,rfl,bV (λh3=>?_) (λh3=>?_)]
   .have e:qa b n=some (if b=120 then .across (n-48)else .down (n-48)):=by unfold qa;rw[if_pos (by lia)]
    have tag:∃g:Str,bN nY (.inl (b:Nat))=some (.str g)/\g=kZ (if b=120 then .across (n-48)else .down (n-48)):=by
     rw[hv];rcases hb with rfl|rfl
     .exact#[_,rfl,rfl]
     .exact#[_,rfl,rfl]
    obtain⟨g,hg,eg⟩:=tag;refine#[_,rfl,.inl (b:Nat),_,rfl,rfl,hg,_,rfl,_,_,rfl,rfl,(by show 3<=sizeLine;decide),λq hq=>k _ _ (ai hq) ?_];rw[e];have HB:V.int ((n:Int)-48)=V.int ((n-48:Nat):Int):=by rw[show(n:Int)-48=((n-48:Nat):Int) by lia]
    refine#[q,.int ((n:Int)-48),rfl,?_,?_]
    .rw[ab,eg];rcases hb with rfl|rfl
     .rfl
     .rfl
    .rcases hb with rfl|rfl
     .exact HB
     .exact HB
   .exact second (by lia) _ rfl
  .have h2:¬(50:Int)<=n:=λz=>h2 (Yc z);exact second (by lia) _ rfl
 .have h1:¬(bN nY (.inl (b:Nat))).isSome=true:=h1;refine second (λz=>h1 ?_) _ rfl;rw[Hy];rcases z.1 with rfl|rfl
  .rfl
  .rfl
def RC(d:Nat)(l:List Nat):k4 d (l.take 2)=k4 d l:=by
 match l with
 |[]=>rfl
 |[_]=>rfl
 |_::_::_=>rfl
def RD(b:Nat):List Nat->Option Qm.Tok
 |[]=>none
 |n::_=>qa b n
def RE(b:Nat)(l:List Nat):b8 (b::l)=if cH b≠0 then some (.patch #[0,cH b,cH b])else if b=114 then some .turn else if b=109 then some .mirror else if b=124 then some .beside else if b=45 then some .above
  else if b=47\/b=92 then k4 (if b=47 then 1 else 2) l else RD b l:=by
 unfold b8;dsimp only;by_cases h:cH b=0
 .rw[wz h,if_neg (show ¬cH b≠0 from λz=>z h)]
  match l with
  |[]=>rfl
  |[_]=>rfl
  |_::_::_=>rfl
 .rw[sQ h,if_pos (show cH b≠0 from h)]
theorem RF(t:List Nat)(h:i<t.length):eS (t.map λn=>V.int (n:Nat)) (some ((i:Int)+1)) (some ((i:Int)+3))=((t.drop (i+1)).take 2).map λn=>V.int (n:Nat):=by
 have e1:HT.bz t.length 0 (some ((i:Int)+1))=i+1:=by unfold HT.bz;dsimp only;rw[if_neg (by lia)];lia
 have e2:HT.bz t.length t.length (some ((i:Int)+3))=min (i+3) t.length:=by unfold HT.bz;dsimp only;rw[if_neg (by lia)];lia
 unfold eS;rw[XX,e1,e2,<-aaJ,<-aaK]
 congr 1
 by_cases q:i+3<=t.length
 .rw[show min (i+3) t.length-(i+1)=2 by lia]
 .rw[Yv (by rw[YN];lia),Yv (by rw[YN];lia)]
def HC{t:List Nat}{b:Nat}(h:t[i]?=some b):(t.map λn=>V.int (n:Nat))[i]?=some (V.int (b:Nat)):=by
 rw[X1,h];rfl
abbrev HD:Sp:=js dP cG (λt i=>i<t.length/\t.length<=1000) (bW eJ) (λt i=>b8 (t.drop i))
theorem RG(T:p_ P w K mg aT aP aG aB)(D:bx K mg "token_at" (top 59) ["words","at"])(n_:aH P w K mg base 1 "colour_of" ["byte"] Ak)(Al:aH P w K mg base 2 "parted_token" ["parting","letters"] Hz)
  (Am:aH P w K mg base 1 "two_byte_token" ["sign","behind"] HA):aH P w K mg base 3 "token_at" ["words","at"] HD:=by
 refine D.go ["words","at","sign","colour"] λnd H vs Q E hr h=>?_;obtain⟨v,t,u,i,rfl,⟨a,rfl,ha⟩,rfl,⟨hi,RH⟩,k⟩:=h;refine#[_,(aC (aR 2 (a0 K (pv 0) (pv 1))) (aC (aR 3 (bh n_ (au (pv 2)))) (aM (aL gX (pv 3) aw) (ax (cU (bC i_ (aU (cU (bC aw (aU (pv 3) (pv 3)))) aw)))) (aM (xY (zb T.wj (pv 2) (mh rfl T.wg))) (ax (cU (bC (vt T.wj (mh rfl T.wg) (pv 2)) (aU aw aw)))) (aM (xY (zb T.wq (pv 2) (mh rfl T.wm))) (ax (bh Al (aU (vt T.wq (mh rfl T.wm) (pv 2)) (l7 (pI K) (pv 0) (gY (aO bS (pv 1) aw)) (gY (aO bS (pv 1) aw)))))) (aM (aL gu (aO bS (pv 1) aw) (bO K T.bP (pv 0))) (ax (bh Am (aU (pv 2) (a0 K (pv 0) (aO bS (pv 1) aw))))) (ax b_))))))),?_];obtain⟨b,hb⟩:∃b,t[i]?=some b:=#[_,XT hi]
 have ed:t.drop i=b::t.drop (i+1):=by
  rw[YU hi]
  congr 1
  rw[XT hi]at hb;exact XW hb
 have te:=RE b (t.drop (i+1));refine#[_,rfl,_,rfl,a,_,_,_,rfl,rfl,af.of ha,cB (HC hb),_,rfl,_,b,rfl,rfl,trivial,λH1 z1 s1 r1=>?_];cases r1;have ha1:=s1 _ _ ha;refine#[_,rfl,_,_,rfl,rfl,_,rfl,bg (λh1=>?_) (λh1=>?_)]
 .have h1:cH b≠0:=by have:=Yi h1;lia
  refine#[_,rfl,_,rfl,(by show 3<=sizeLine;decide),λp hp=>#[(by show 3<=sizeLine;decide),λq hq=>k _ _ (s1.trans ((ai hp).trans (ai hq))) ?_]];show bW eJ _ _ (b8 (t.drop i));rw[ed,te,if_pos h1];refine#[q,.ref p,rfl,ab,p,rfl,?_];rw[ae (λz=>by rw[z,ab]at hq;cases hq),ab];rfl
 have h1:¬cH b≠0:=λz=>h1 (Yc (by lia));rw[if_neg h1]at te;have hpl:=Ru b;refine#[_,rfl,.inl (b:Nat),rfl,rfl,_,rfl,bg (λh2=>?_) (λh2=>?_)]
 .have h2:(bN nZ (.inl (b:Nat))).isSome=true:=h2;obtain⟨g,kk,hg,ek,eg,el,ev⟩:aX λ(g:Str) (kk:Qm.Tok)=>bN nZ (.inl (b:Nat))=some (.str g)/\b8 (b::t.drop (i+1))=some kk/\g=kZ kk/\kk.len=1/\∀H,sP H (.int 0) kk:=by
   rw[hpl]at h2 ⊢;by_cases q1:b=114
   .exact#["turned",.turn,by rw[if_pos q1],by rw[te,if_pos q1],rfl,rfl,λ_=>rfl]
   rw[if_neg q1]at h2 te ⊢;by_cases q2:b=109
   .exact#["mirrored",.mirror,by rw[if_pos q2],by rw[te,if_pos q2],rfl,rfl,λ_=>rfl]
   rw[if_neg q2]at h2 te ⊢;by_cases q3:b=124
   .exact#["beside",.beside,by rw[if_pos q3],by rw[te,if_pos q3],rfl,rfl,λ_=>rfl]
   rw[if_neg q3]at h2 te ⊢;by_cases q4:b=45
   .exact#["above",.above,by rw[if_pos q4],by rw[te,if_pos q4],rfl,rfl,λ_=>rfl]
   rw[if_neg q4]at h2;cases h2
  refine#[_,rfl,.inl (b:Nat),_,rfl,rfl,hg,(by show 3<=sizeLine;decide),λq hq=>k _ _ (s1.trans (ai hq)) ?_];show bW eJ _ _ (b8 (t.drop i));rw[ed,ek];refine#[q,.int 0,rfl,?_,ev _];rw[ab,eg,el];rfl
 have h2:¬(bN nZ (.inl (b:Nat))).isSome=true:=h2;have np:¬b=114/\¬b=109/\¬b=124/\¬b=45:=by
  rw[hpl]at h2;refine#[λz=>h2 ?_,λz=>h2 ?_,λz=>h2 ?_,λz=>h2 ?_]<;>subst z<;>rfl
 rw[if_neg np.1,if_neg np.2.1,if_neg np.2.2.1,if_neg np.2.2.2]at te;have hpa:=Rv b;refine#[_,rfl,.inl (b:Nat),rfl,rfl,_,rfl,bg (λh3=>?_) (λh3=>?_)]
 .have h3:(bN n8 (.inl (b:Nat))).isSome=true:=h3;obtain⟨hg,RI⟩:bN n8 (.inl (b:Nat))=some (.int ((if b=47 then 1 else 2:Nat):Int))/\(b=47\/b=92):=by
   rw[hpa]at h3 ⊢;by_cases q1:b=47
   .subst q1;exact#[rfl,.inl rfl]
   rw[if_neg q1]at h3 ⊢;by_cases q2:b=92
   .subst q2;exact#[rfl,.inr rfl]
   rw[if_neg q2]at h3;cases h3
  refine#[_,rfl,.inl (b:Nat),_,rfl,rfl,hg,_,rfl,_,rfl,_,_,rfl,rfl,_,rfl,_,rfl,_,_,rfl,rfl,_,rfl,a,_,rfl,af.of ha1,λp hp=>?_];rw[RF t hi];refine#[_,_,_,(t.drop (i+1)).take 2,rfl,rfl,#[p,rfl,ab],(by split<;>lia),λH2 z s2 r2=>k H2 z (s1.trans ((ai hp).trans s2)) ?_];show bW eJ _ _ (b8 (t.drop i));rw[ed,te,if_pos RI];have r2:bW eJ H2 z (k4 (if b=47 then 1 else 2) ((t.drop (i+1)).take 2)):=r2;rw[RC]at r2;exact r2
 have h3:¬(bN n8 (.inl (b:Nat))).isSome=true:=h3;have nq:¬(b=47\/b=92):=by
  rw[hpa]at h3;rintro(z|z)<;>exact h3 (by subst z;rfl)
 rw[if_neg nq]at te;refine#[_,rfl,_,_,rfl,rfl,_,rfl,a,_,rfl,.inl (af.of ha1),_,_,rfl,rfl,_,rfl,bV (λh4=>?_) (λh4=>?_)]
 .rw[XX]at h4;have h4:i+1<t.length:=by lia
  obtain⟨n,hn⟩:∃n,t[i+1]?=some n:=#[_,XT h4]
  refine#[_,rfl,_,rfl,_,rfl,_,_,rfl,rfl,a,_,_,_,rfl,rfl,af.of ha1,at_of (j:=i+1) (by lia) (HC hn),_,b,_,n,rfl,rfl,rfl,trivial,λH2 z s2 r2=>k H2 z (s1.trans s2) ?_];show bW eJ _ _ (b8 (t.drop i));rw[ed,te,YU h4];rw[XT h4]at hn;rw[XW hn];exact r2
 .rw[XX]at h4;refine k H1 _ s1 ?_;show bW eJ _ _ (b8 (t.drop i));rw[ed,te,ZA (by lia)];rfl
inductive ig(H:Hp)(v:V)(l:List Qm.Tok):Prop|mk(a vs:_)(_:v=.ref a)(_:H a=some (.lst vs))(_:Paired (eJ H) vs l)
theorem ig.mono{p:List Qm.Tok}(s:ag H H')(h:ig H v p):ig H' v p:=by
 obtain⟨a,vs,e,q,r⟩:=h;exact#[a,vs,e,s _ _ q,Paired.aY r λ_ _ z=>z.mono s]
abbrev HE:Sp:=fO dP (λt=>t.length<=200) (bW ig) pM
theorem RJ(T:p_ P w K mg aT aP aG aB)(D:bx K mg "tokens_of" (top 60) ["words"])(An:aH P w K mg base 3 "token_at" ["words","at"] HD):aH P w K mg base 4 "tokens_of" ["words"] HE:=by
 refine D.go ["words","tokens","wanted","at","token"] λnd H vs Q E hr h=>?_;obtain⟨v,t,rfl,⟨a,rfl,ha⟩,Xk,k⟩:=h;refine#[_,(aC (aR 1 (aV eQ)) (aC (aR 2 aw) (aC (aR 3 aw) (aC (x_ PassesOwn.never (aL gu (pv 3) (bO K T.bP (pv 0))) (aC (aR 4 (dO (bh An (aU (pv 0) (pv 3))))) (aM (PW.pt (m7 (aL bL (pv 2) aw) (o4 (aL jN (pv 4) b_)))) (ax b_) (aC (cK (c_ X4 Yk Yl fE (pv 1) (au (pv 4)))) (aC (aR 2 (aO bS (aO dM (pv 2) aw) (vt T.Aj (mh rfl T.Ai) (bE K (pv 4) aw)))) (bF (aR 3 (aO bS (pv 3) (bE K (pv 4) aw))))))))) (aM (aL gX (pv 2) aw) (ax b_) (ax (pv 1))))))),?_];refine#[Yg _,λD hD=>?_];have aD:a≠D:=bH ha hD;refine yd (λσ H'=>Di λ(w i f:Nat) (v4:Option V) (acc:List V) (Tk:List Qm.Tok)=>σ=[some (.ref a),some (.ref D),some (.int (w:Nat)),some (.int (i:Nat)),v4]/\ag H (del H' D)/\H' D=some (.lst acc)/\Paired (eJ (del H' D)) acc Tk/\i<=t.length/\Tk.length<=i/\t.length-i<=f/\
   pM t=(Qm.scan f w (t.drop i)).map (Tk++·)) (λσ _=>match σ with|[_,_,_,some (.int i),_]=>t.length-i.toNat|_=>0) ?_ ?_ (λσ H Q Q' hq ⟨v,e,v2,e2,p,ys,e3,h,i,j,ei,ej,k,ek,q⟩=>#[v,e,v2,e2,p,ys,e3,h,i,j,ei,ej,k,ek,hq _ _ q])
 .refine#[1,0,t.length,none,[],[],rfl,by rw[cf hD];exact ag.refl _,ab,.nil,Yg _,Yg _,Nat.sub_le _ _,?_];show Qm.scan t.length 1 t=_;rw[aaj];cases Qm.scan t.length 1 t<;>rfl
 .rintro σ H' ⟨w',i,f',v4,acc,Tk,rfl,s1,hA,pr,hi,hT,hf,eq⟩;have ha1:=s1.trans bc _ _ ha;refine#[_,rfl,_,rfl,a,_,rfl,.inl (af.of ha1),_,_,rfl,rfl,_,rfl,bV (λh1=>?_) (λh1=>?_)]
  .rw[XX]at h1;have h1:i<t.length:=by lia
   refine#[D,acc,hA,_,rfl,_,rfl,_,t,_,i,rfl,#[a,rfl,s1 _ _ ha],rfl,#[h1,by lia],λH2 z s2 r2 hn=>?_];have s12:ag H H2:=s1.trans s2;have r2:bW eJ H2 z (b8 (t.drop i)):=r2;have s3:ag H (upd H2 D (.lst acc)):=s12.trans (ai hn);obtain⟨g,rfl⟩:∃g,f'=g+1:=#[f'-1,by lia]
   have ne:t.drop i≠[]:=λz=>by have:=congrArg List.length z;simp at this;lia
   have un:Qm.scan (g+1) w' (t.drop i)=match b8 (t.drop i)with|none=>none|some k=>if w'=0 then none else(Qm.scan g (w'-1+k.arity) ((t.drop i).drop k.len)).map (k::·):=by
    show(if t.drop i=[]then _ else _)=_;rw[if_neg ne]
    all_goals rfl
   have ay:(w'=0\/b8 (t.drop i)=none)->pM t=none:=by
    intro h;rw[eq,un];rcases h with h|h
    .cases q:b8 (t.drop i)with|none=>rfl|some kk=>simp only;rw[if_pos h];rfl
    .rw[h];rfl
   refine#[_,rfl,rfl,_,rfl,bg (λh2=>jj ?_) (λh2=>?_)]
   .refine k _ _ s3 ?_;rw[ay (.inl (by simpa using h2))];rfl
   have w1:¬w'=0:=by simpa using h2
   refine#[z,rfl,rfl,_,rfl,bg (λh3=>?_) (λh3=>?_)]
   .have h3:z=.ay:=Yi h3;refine k _ _ s3 ?_;rw[ay (.inr ?_)]
    .rfl
    .cases q:b8 (t.drop i)with|none=>rfl|some kk=>
      rw[q,h3]at r2;obtain⟨_,_,e,_⟩:=r2;cases e
   cases q:b8 (t.drop i)with
   |none=>
    rw[q]at r2;exact absurd (Yc (show z=.ay from r2)) h3
   |some kk=>
    rw[q]at r2;obtain⟨ta,tu,rfl,jv,htv⟩:=r2;rw[q]at un;simp only at un;rw[if_neg w1]at un;obtain⟨_,tb⟩:=FX q;have bl:=kk.FW;have lp:=kk.len_pos;have ln:=congrArg List.length tb;rw[XY,YN,YN,YN]at ln;have tD:ta≠D:=λz=>by rw[z,hn]at jv;cases jv
    have Xl:=pr.length;refine#[_,rfl,.inl #[rfl,_,af.of ab],_,rfl,D,acc,_,rfl,rfl,ab,Yq (show acc.length<=200 by lia) (by decide),?_];have HG:upd (upd H2 D (.lst acc)) D (.lst (acc++[.ref ta])) ta=some (.tup [.str (kZ kk),tu,.int (kk.len:Nat)]):=by rw[ae tD,ae tD];exact jv
    refine#[_,rfl,_,_,rfl,rfl,_,rfl,ta,_,_,_,rfl,rfl,aI.of HG,rfl,.inr (kZ kk),_,rfl,rfl,Rw kk,_,_,rfl,rfl,?_];refine#[_,rfl,_,rfl,ta,_,_,_,rfl,rfl,aI.of HG,rfl,_,_,rfl,rfl,#[w'-1+kk.arity,i+kk.len,g,some (.ref ta),acc++[.ref ta],Tk++[kk],?_,?_,?_,?_,by lia,by simp;lia,by lia,?_],?_]
    .show[some (V.ref a),some (V.ref D),some (V.int ((w':Int)-1+(kk.arity:Nat))),some (V.int ((i:Int)+(kk.len:Nat))),some (V.ref ta)]=_;rw[show(w':Int)-1+(kk.arity:Nat)=((w'-1+kk.arity:Nat):Int) by lia,show(i:Int)+(kk.len:Nat)=((i+kk.len:Nat):Int) by lia]
    .rw[cT,cf hn];exact s12
    .rw[ab]
    .rw[cT,cf hn];exact Paired.snoc (Paired.aY pr λ_ _ z=>z.mono s2) #[ta,tu,rfl,jv,htv]
    .rw[eq,un,List.drop_drop];cases Qm.scan g (w'-1+kk.arity) (t.drop (i+kk.len))with|none=>rfl|some r=>simp
    .show t.length-((i:Int)+(kk.len:Nat)).toNat<t.length-(i:Int).toNat
     lia
  .rw[XX]at h1;have sH:ag H H':=s1.trans bc;have ed:t.drop i=[]:=ZA (by lia);have un:Qm.scan f' w' (t.drop i)=if w'=0 then some []else none:=by
    rw[ed];cases f' with
    |zero=>unfold Qm.scan;by_cases q:w'=0<;>simp[q]
    |succ g=>unfold Qm.scan;rw[if_pos rfl]
   refine#[_,rfl,_,_,rfl,rfl,_,rfl,bV (λh2=>?_) (λh2=>?_)]
   .refine k _ _ sH ?_;rw[eq,un,if_neg (by lia)];rfl
   .refine#[_,rfl,k _ _ sH ?_];rw[eq,un,if_pos (by lia)];show ig H' (.ref D) (Tk++[]);rw[YC];exact#[D,acc,rfl,hA,Paired.aY pr λ_ _ z=>z.mono bc]
def RK(h:kZ k="name"):∃j,k=.name j:=by
 cases k with|name j=>exact#[j,rfl]|patch _=>exact absurd h (show ¬("patch":Str)="name" by decide+kernel)|turn=>exact absurd h (show ¬("turned":Str)="name" by decide+kernel)|mirror=>exact absurd h (show ¬("mirrored":Str)="name" by decide+kernel)|beside=>exact absurd h (show ¬("beside":Str)="name" by decide+kernel)|above=>exact absurd h (show ¬("above":Str)="name" by decide+kernel)|across _=>exact absurd h (show ¬("times beside":Str)="name" by decide+kernel)|down _=>exact absurd h (show ¬("times above":Str)="name" by decide+kernel)
def cN{b:Str}{A B:Prop}(h:¬a=b)(q:B):if decide (V.str a=V.str b)=true then A else B:=by
 rw[Yh (λz=>h (by injection z))];exact g8 q
def oa{b:Str}{A B:Prop}(h:a=b)(q:A):if decide (V.str a=V.str b)=true then A else B:=by
 rw[Yc (by rw[h])];exact jj q
theorem Paired.mH{α β:Type}{F:α->β->Prop}:∀ {l:List α} {m:List β} {b:β},Paired F l (m++[b])->aX λl0 a=>l=l0++[a]/\Paired F l0 m/\F a b
 |_,[],b,.cons r .nil=>#[[],_,rfl,.nil,r]
 |_,c::m,b,.cons r t=>by
  obtain⟨l0,a,e,p,q⟩:=Paired.mH (m:=m) (b:=b) t;exact#[_::l0,a,by rw[e];rfl,.cons r p,q]
inductive j1(H:Hp)(v:V)(dr:List (Option Rows)):Prop|mk(a vs:_)(_:v=.ref a)(_:H a=some (.lst vs))(_:Paired (bW a_ H) vs dr)
def sR{o:Option Rows}(s:ag H H')(h:bW a_ H v o):bW a_ H' v o:=bW.mono (R:=a_) (λ_ _ _ _ s h=>a_.mono s h) s h
def j1.mono{l:List (Option Rows)}(s:ag H H')(h:j1 H v l):j1 H' v l:=by
 obtain⟨a,vs,e,q,r⟩:=h;exact#[a,vs,e,s _ _ q,Paired.aY r λ_ _ z=>sR s z]
noncomputable def qb(env:Nat->Option Rows):Qm.Tok->List Rows->Option Rows
 |.patch p,_=>some [[p]]
 |.name k,_=>env k
 |.turn,x::_=>some (dS x)
 |.mirror,x::_=>some (dU x)
 |.beside,x::y::_=>fc x y
 |.above,x::y::_=>ff x y
 |.across n,x::_=>fI x n
 |.down n,x::_=>fJ x n
 |_,_=>none
def RL{env:Nat->Option Rows}{st:List Rows}(h:k.arity<=st.length):c4 env k st=(qb env k st).map (·::st.drop k.arity):=by
 cases k with
 |patch p=>rfl
 |name j=>rfl
 |turn=>match st,h with|x::r,_=>rfl
 |mirror=>match st,h with|x::r,_=>rfl
 |beside=>
  match st,h with
  |x::y::r,_=>rfl
  |[x],h=>exact absurd h (show ¬2<=1 by decide)
 |above=>
  match st,h with
  |x::y::r,_=>rfl
  |[x],h=>exact absurd h (show ¬2<=1 by decide)
 |across n=>match st,h with|x::r,_=>rfl
 |down n=>match st,h with|x::r,_=>rfl
abbrev HH:Sp:=fO ig (λT=>∀k∈T,k.Ok) cG Qm.namesIn
theorem RM(D:bx K mg "names_in" (top 61) ["tokens"]):aH P w K mg base 1 "names_in" ["tokens"] HH:=by
 refine D.go ["tokens","bits","token"] λnd H vs Q E hr h=>?_;obtain⟨v,T,rfl,⟨a,vs,rfl,ha,pr⟩,ok,k⟩:=h;refine#[_,(aC (aR 1 aw) (aC (dq PassesOwn.never rfl (gq (pv 0)) (bQ 2) (bF (gS (aL bL (bE K (pv 2) aw) i_) (bF (aR 1 (aO uQ (pv 1) (aO yg aw (bE K (pv 2) aw))))) jK))) (ax (pv 1)))),?_];refine#[_,rfl,a,rfl,#[vs,af.of ha],kF (K:=K) (a:=a) (xs:=vs) (λi σ H'=>∃v2,σ=[some (.ref a),some (.int (Qm.namesIn (T.take i):Nat)),v2]/\H'=H) #[none,rfl,rfl] (λi σ H' _ ⟨_,_,h⟩=>by rw[h];exact af.of ha) ?_ ?_]
 .rintro i x σ H' hi ⟨v2,rfl,rfl⟩;obtain⟨kk,hk,ta,tu,rfl,jv,htv⟩:=Paired.getL pr hi;have step:Qm.namesIn (T.take (i+1))=Qm.nameStep (Qm.namesIn (T.take i)) kk:=by
   unfold Qm.namesIn;rw[take_snoc hk,ZC];rfl
  refine#[_,rfl,ta,_,_,_,rfl,rfl,aI.of jv,rfl,rfl,_,rfl,bg (λh=>?_) (λh=>?_)]
  .have h:kZ kk="name":=by have:=Yi h;injection this
   obtain⟨j,rfl⟩:=RK h;have hj:j<8:=ok _ (X_ hk);have htv:tu=.int (j:Nat):=htv;subst htv;refine#[_,rfl,_,rfl,ta,_,_,_,rfl,rfl,aI.of jv,rfl,_,_,rfl,rfl,#[by lia,by lia,by decide],_,_,rfl,rfl,some (.ref ta),?_,rfl];have e:Builtin.bitOr ((Qm.namesIn (T.take i):Nat):Int) (1*2^(j:Int).toNat)=((Qm.namesIn (T.take (i+1)):Nat):Int):=by
    rw[step];show _=((Qm.namesIn (T.take i)|||1<<<j:Nat):Int);rw[Yd,Int.one_mul,Z3,<-v9]
    congr 1
   show[some (V.ref a),some (V.int (Builtin.bitOr ((Qm.namesIn (T.take i):Nat):Int) (1*2^(j:Int).toNat))),some (V.ref ta)]=_;rw[e]
  .have h:¬kZ kk="name":=λz=>h (Yc (by rw[z]));refine#[some (.ref ta),?_,rfl];have e:Qm.nameStep (Qm.namesIn (T.take i)) kk=Qm.namesIn (T.take i):=by
    cases kk with|name j=>exact absurd rfl h|_=>rfl
   rw[step,e];rfl
 .rintro σ H' ⟨v2,rfl,rfl⟩;refine#[_,rfl,k _ _ (ag.refl _) ?_];rw[pr.length,YO];rfl
inductive HI(vs:List V)(H:Hp)(Q:VK)(E:XK):Prop|mk(tv W dv k ws st dr:_)(_:vs=[tv,.ref W,dv])(_:H W=some (.lst ws))(_:eJ (del H W) tv k)(_:k.Ok)(_:Paired (a_ (del H W)) ws st.reverse)(_:(∀r∈st,aZ r))(_:k.arity<=st.length)(_:j1 (del H W) dv dr)(_:dr.length=8)(_:∀H' ws' z,ag (del H W) (del H' W)->H' W=some (.lst ws')->Paired (a_ (del H' W)) ws' (st.drop k.arity).reverse->bW a_ (del H' W) z (qb (λj=>dr.getD j none) k st)->Q z H')
theorem RN(D:bx K mg "block_of_token" (top 62) ["token","waiting","drawings"])(p6:aH P w K mg base 3 "turned" ["block"] zX)(p7:aH P w K mg base 3 "mirrored" ["block"] z3)
  (Ao:aH P w K mg base 1 "times_beside" ["block","times"] Hl) (Ap:aH P w K mg base 1 "times_above" ["block","times"] Hm) (Aq:aH P w K mg base 1 "beside" ["first","second"] Hj) (Ar:aH P w K mg base 1 "above" ["first","second"] Hk):
  aH P w K mg base 4 "block_of_token" ["token","waiting","drawings"] HI:=by
 refine D.go ["token","waiting","drawings","kind","first","second"] λnd H vs Q E hr h=>?_;obtain⟨tv,W,dv,kk,ws,st,dr,rfl,hW,⟨ta,tu,rfl,jv,htv⟩,ok,pr,mJ,ar,⟨da,ds,rfl,hda,ij⟩,l8,k⟩:=h;refine#[_,(aC (aR 3 (bE K (pv 0) aw)) (aM (aL bL (pv 3) i_) (ax (aV (au (aV (au (bE K (pv 0) aw)))))) (aM (aL bL (pv 3) i_) (ax (a0 K (pv 2) (bE K (pv 0) aw))) (aC (aR 4 (pb X4 YW YX ph (pv 1))) (aM (aL bL (pv 3) i_) (ax (dO (bh p6 (au (pv 4))))) (aM (aL bL (pv 3) i_) (ax (dO (bh p7 (au (pv 4))))) (aM (aL bL (pv 3) i_) (ax (dO (bh Ao (aU (pv 4) (bE K (pv 0) aw))))) (aM (aL bL (pv 3) i_) (ax (dO (bh Ap (aU (pv 4) (bE K (pv 0) aw))))) (aC (aR 5 (pb X4 YW YX ph (pv 1))) (aM (aL bL (pv 3) i_) (ax (dO (bh Aq (aU (pv 4) (pv 5))))) (ax (dO (bh Ar (aU (pv 4) (pv 5))))))))))))))),?_];have As:=bc _ _ jv;refine#[_,rfl,ta,_,_,_,rfl,rfl,aI.of As,rfl,?_];have eY:∀(x:Rows) (r:List Rows),st=x::r->aX λw0 y=>ws=w0++[y]/\Paired (a_ (del H W)) w0 r.reverse/\a_ (del H W) y x/\aZ x:=λx r e=>by
  subst e;rw[YA]at pr;obtain⟨w0,y,e,p,q⟩:=Paired.mH pr;exact#[w0,y,e,p,q,mJ x (by simp)]
 have last:∀(w0:List V) (y:V),(w0++[y])[(w0++[y]).length-1]?=some y:=λw0 y=>by simp
 cases kk with
 |patch p=>
  refine#[_,rfl,rfl,_,rfl,oa rfl ?_];refine#[_,rfl,ta,_,_,_,rfl,rfl,aI.of As,rfl,bu,λp1 h1=>#[bu,λp2 h2=>?_]];have n1:p1≠W:=λz=>by rw[z,hW]at h1;cases h1
  have n2:p2≠W:=λz=>by rw[z,ae (Ne.symm n1),hW]at h2;cases h2
  have n12:p1≠p2:=λz=>by rw[<-z,ab]at h2;cases h2
  have sm:ag (del H W) (del (upd (upd H p1 (.lst [tu])) p2 (.lst [.ref p1])) W):=λb o e=>by
   obtain⟨e1,e2⟩:=iP e;have b2:b≠p2:=λz=>by rw[z]at e2;rw[ae (λq=>n12 q.symm),e2]at h2;cases h2
   rw[cE e1,ae b2,ae (λz=>by rw[z,h1]at e2;cases e2)];exact e2
  refine k _ ws _ sm ?_ (Paired.aY pr λ_ _ z=>z.mono sm) ?_
  .rw[ae (Ne.symm n2),ae (Ne.symm n1)];exact hW
  .refine#[p2,[.ref p1],rfl,?_,.cons #[p1,[tu],rfl,?_,.cons (de.mono sm htv) .nil] .nil]
   .rw[cE n2,ab]
   .rw[cE n1,ae n12,ab]
 |name j=>
  have ok:j<8:=ok;have htv:tu=.int (j:Nat):=htv;subst htv;refine#[_,rfl,rfl,_,rfl,cN (show ¬("name":Str)="patch" by decide+kernel) ?_];refine#[_,rfl,rfl,_,rfl,oa rfl ?_];obtain⟨o,ho⟩:∃o,dr[j]?=some o:=#[_,XT (by lia)]
  obtain⟨z,hz,io⟩:=Paired.get ij ho;refine#[_,rfl,_,rfl,ta,_,_,_,rfl,rfl,aI.of As,rfl,da,ds,_,z,rfl,rfl,af.of (bc _ _ hda),cB hz,?_];refine k H ws z (ag.refl _) hW pr ?_;show bW a_ (del H W) z (dr.getD j none);rw[XU,ho];exact io
 |turn=>
  match st,ar,eY,k with
  |x::r,_,eY,k=>
  obtain⟨w0,y,rfl,p0,iy,fx⟩:=eY _ _ rfl;refine#[_,rfl,rfl,_,rfl,cN (show ¬("turned":Str)="patch" by decide+kernel) ?_];refine#[_,rfl,rfl,_,rfl,cN (show ¬("turned":Str)="name" by decide+kernel) ?_];refine#[_,rfl,.inl #[rfl,_,af.of hW],W,_,y,rfl,rfl,hW,last _ _,?_];rw[YB];refine#[_,rfl,rfl,_,rfl,oa rfl ?_];refine#[W,w0,ab,_,rfl,y,x,rfl,by rw[cT];exact iy,fx,λH3 z s3 r3 hn=>?_];rw[cT]at s3;refine k _ w0 z ?_ ab ?_ ?_<;>rw[cf hn]
  .exact s3
  .exact Paired.aY p0 λ_ _ q=>q.mono s3
  .exact r3
 |mirror=>
  match st,ar,eY,k with
  |x::r,_,eY,k=>
  obtain⟨w0,y,rfl,p0,iy,fx⟩:=eY _ _ rfl;refine#[_,rfl,rfl,_,rfl,cN (show ¬("mirrored":Str)="patch" by decide+kernel) ?_];refine#[_,rfl,rfl,_,rfl,cN (show ¬("mirrored":Str)="name" by decide+kernel) ?_];refine#[_,rfl,.inl #[rfl,_,af.of hW],W,_,y,rfl,rfl,hW,last _ _,?_];rw[YB];refine#[_,rfl,rfl,_,rfl,cN (show ¬("mirrored":Str)="turned" by decide+kernel) ?_];refine#[_,rfl,rfl,_,rfl,oa rfl ?_];refine#[W,w0,ab,_,rfl,y,x,rfl,by rw[cT];exact iy,fx,λH3 z s3 r3 hn=>?_];rw[cT]at s3;refine k _ w0 z ?_ ab ?_ ?_<;>rw[cf hn]
  .exact s3
  .exact Paired.aY p0 λ_ _ q=>q.mono s3
  .exact r3
 |across n=>
  match st,ar,eY,k with
  |x::r,_,eY,k=>
  have htv:tu=.int (n:Nat):=htv;subst htv;obtain⟨w0,y,rfl,p0,iy,fx⟩:=eY _ _ rfl;refine#[_,rfl,rfl,_,rfl,cN (show ¬("times beside":Str)="patch" by decide+kernel) ?_];refine#[_,rfl,rfl,_,rfl,cN (show ¬("times beside":Str)="name" by decide+kernel) ?_];refine#[_,rfl,.inl #[rfl,_,af.of hW],W,_,y,rfl,rfl,hW,last _ _,?_];rw[YB];refine#[_,rfl,rfl,_,rfl,cN (show ¬("times beside":Str)="turned" by decide+kernel) ?_];refine#[_,rfl,rfl,_,rfl,cN (show ¬("times beside":Str)="mirrored" by decide+kernel) ?_];refine#[_,rfl,rfl,_,rfl,oa rfl ?_];refine#[W,w0,ab,_,rfl,_,rfl,ta,_,_,_,rfl,rfl,aI.of (by rw[cT];exact jv),rfl,y,x,_,n,rfl,by rw[cT];exact iy,rfl,#[fx,by have:=ok.1;lia,ok.2],λH3 z s3 r3 hn=>?_];rw[cT]at s3;refine k _ w0 z ?_ ab ?_ ?_<;>rw[cf hn]
  .exact s3
  .exact Paired.aY p0 λ_ _ q=>q.mono s3
  .exact r3
 |down n=>
  match st,ar,eY,k with
  |x::r,_,eY,k=>
  have htv:tu=.int (n:Nat):=htv;subst htv;obtain⟨w0,y,rfl,p0,iy,fx⟩:=eY _ _ rfl;refine#[_,rfl,rfl,_,rfl,cN (show ¬("times above":Str)="patch" by decide+kernel) ?_];refine#[_,rfl,rfl,_,rfl,cN (show ¬("times above":Str)="name" by decide+kernel) ?_];refine#[_,rfl,.inl #[rfl,_,af.of hW],W,_,y,rfl,rfl,hW,last _ _,?_];rw[YB];refine#[_,rfl,rfl,_,rfl,cN (show ¬("times above":Str)="turned" by decide+kernel) ?_];refine#[_,rfl,rfl,_,rfl,cN (show ¬("times above":Str)="mirrored" by decide+kernel) ?_];refine#[_,rfl,rfl,_,rfl,cN (show ¬("times above":Str)="times beside" by decide+kernel) ?_];refine#[_,rfl,rfl,_,rfl,oa rfl ?_];refine#[W,w0,ab,_,rfl,_,rfl,ta,_,_,_,rfl,rfl,aI.of (by rw[cT];exact jv),rfl,y,x,_,n,rfl,by rw[cT];exact iy,rfl,#[fx,by have:=ok.1;lia,ok.2],λH3 z s3 r3 hn=>?_];rw[cT]at s3;refine k _ w0 z ?_ ab ?_ ?_<;>rw[cf hn]
  .exact s3
  .exact Paired.aY p0 λ_ _ q=>q.mono s3
  .exact r3
 |beside=>
  match st,ar,eY,k,mJ with
  |[_],ar,_,_,_=>exact absurd ar (show ¬2<=1 by decide)
  |x::x2::r,_,eY,k,mJ=>
  obtain⟨w1,y,rfl,p0,iy,fx⟩:=eY _ _ rfl;rw[YA]at p0;obtain⟨w0,y2,rfl,p1,Au⟩:=Paired.mH p0;have Av:aZ x2:=mJ x2 (by simp);refine#[_,rfl,rfl,_,rfl,cN (show ¬("beside":Str)="patch" by decide+kernel) ?_];refine#[_,rfl,rfl,_,rfl,cN (show ¬("beside":Str)="name" by decide+kernel) ?_];refine#[_,rfl,.inl #[rfl,_,af.of hW],W,_,y,rfl,rfl,hW,last _ _,?_];rw[YB];refine#[_,rfl,rfl,_,rfl,cN (show ¬("beside":Str)="turned" by decide+kernel) ?_];refine#[_,rfl,rfl,_,rfl,cN (show ¬("beside":Str)="mirrored" by decide+kernel) ?_];refine#[_,rfl,rfl,_,rfl,cN (show ¬("beside":Str)="times beside" by decide+kernel) ?_];refine#[_,rfl,rfl,_,rfl,cN (show ¬("beside":Str)="times above" by decide+kernel) ?_];refine#[_,rfl,.inl #[rfl,_,af.of ab],W,_,y2,rfl,rfl,ab,last _ _,?_];rw[YB,L2.d7];refine#[_,rfl,rfl,_,rfl,oa rfl ?_];refine#[W,w0,ab,_,rfl,_,rfl,y,x,y2,x2,rfl,by rw[cT];exact iy,by rw[cT];exact Au,#[fx,Av],λH3 z s3 r3 hn=>?_];rw[cT]at s3;refine k _ w0 z ?_ ab ?_ ?_<;>rw[cf hn]
  .exact s3
  .exact Paired.aY p1 λ_ _ q=>q.mono s3
  .exact r3
 |above=>
  match st,ar,eY,k,mJ with
  |[_],ar,_,_,_=>exact absurd ar (show ¬2<=1 by decide)
  |x::x2::r,_,eY,k,mJ=>
  obtain⟨w1,y,rfl,p0,iy,fx⟩:=eY _ _ rfl;rw[YA]at p0;obtain⟨w0,y2,rfl,p1,Au⟩:=Paired.mH p0;have Av:aZ x2:=mJ x2 (by simp);refine#[_,rfl,rfl,_,rfl,cN (show ¬("above":Str)="patch" by decide+kernel) ?_];refine#[_,rfl,rfl,_,rfl,cN (show ¬("above":Str)="name" by decide+kernel) ?_];refine#[_,rfl,.inl #[rfl,_,af.of hW],W,_,y,rfl,rfl,hW,last _ _,?_];rw[YB];refine#[_,rfl,rfl,_,rfl,cN (show ¬("above":Str)="turned" by decide+kernel) ?_];refine#[_,rfl,rfl,_,rfl,cN (show ¬("above":Str)="mirrored" by decide+kernel) ?_];refine#[_,rfl,rfl,_,rfl,cN (show ¬("above":Str)="times beside" by decide+kernel) ?_];refine#[_,rfl,rfl,_,rfl,cN (show ¬("above":Str)="times above" by decide+kernel) ?_];refine#[_,rfl,.inl #[rfl,_,af.of ab],W,_,y2,rfl,rfl,ab,last _ _,?_];rw[YB,L2.d7];refine#[_,rfl,rfl,_,rfl,cN (show ¬("above":Str)="beside" by decide+kernel) ?_];refine#[W,w0,ab,_,rfl,_,rfl,y,x,y2,x2,rfl,by rw[cT];exact iy,by rw[cT];exact Au,#[fx,Av],λH3 z s3 r3 hn=>?_];rw[cT]at s3;refine k _ w0 z ?_ ab ?_ ?_<;>rw[cf hn]
  .exact s3
  .exact Paired.aY p1 λ_ _ q=>q.mono s3
  .exact r3
inductive HJ(vs:List V)(H:Hp)(Q:VK)(E:XK):Prop|mk(tv dv e dr:_)(_:vs=[tv,dv])(_:ig H tv (Qm.toks e))(_:cp e)(_:(Qm.toks e).length<=1000)(_:j1 H dv dr)(_:dr.length=8)(_:(∀j b,dr.getD j none=some b->aZ b))(_:∀H' z,ag H H'->bW a_ H' z (aS (λj=>dr.getD j none) e)->Q z H')
theorem RO(T:Glob mg)(D:bx K mg "block_of" (top 63) ["tokens","drawings"])(Aw:aH P w K mg base 4 "block_of_token" ["token","waiting","drawings"] HI):aH P w K mg base 5 "block_of" ["tokens","drawings"] HJ:=by
 refine D.go ["tokens","drawings","waiting","token","block"] λnd H vs Q E hr h=>?_;obtain⟨tv,dv,e,dr,rfl,⟨a,vs,rfl,ha,pr⟩,ok,RH,idr,l8,fd,k⟩:=h;refine#[_,(aC (aR 2 (aV eQ)) (aC (dq PassesOwn.never rfl (yY rfl T.zT (au (pv 0))) (bQ 3) (aC (aR 4 (bh Aw (bC (pv 3) (aU (pv 2) (pv 1))))) (aM (aL jN (pv 4) b_) (ax b_) (bF (cK (c_ X4 Yk Yl fE (pv 2) (au (pv 4)))))))) (ax (pb X4 YW YX ph (pv 2))))),?_];refine#[Yg _,λW hW=>?_];have sW:ag H (upd H W (.lst [])):=ai hW;have hn:=pr.length;have HK:gx 1 (Qm.toks e):=by
  have:=jV (e:=e) (w:=0) (T:=[]) rfl;rw[YC]at this;exact this
 have tok:=jn ok;have dw:aS (λj=>dr.getD j none) e=(Qm.run (λj=>dr.getD j none) (Qm.toks e)).bind List.head?:=(Qc _ e).symm;refine#[_,rfl,a,vs,rfl,af.of (sW _ _ ha),E8 (J:=nH K a vs.length) (n:=vs.length) (λi σ H'=>lT λv3 v4 ws st=>σ=[some (.ref a),some dv,some (.ref W),v3,v4]/\ag H (del H' W)/\H' W=some (.lst ws)/\Paired (a_ (del H' W)) ws st.reverse/\i<=vs.length/\Qm.run (λj=>dr.getD j none) ((Qm.toks e).drop (vs.length-i))=some st) ?_ ?_ ?_]
 .refine#[none,none,[],[],rfl,by rw[cf hW];exact ag.refl _,ab,.nil,Yg _,?_];rw[Nat.sub_zero,ZA (by lia)];rfl
 .rintro i σ H' hi ⟨v3,v4,ws,st,rfl,s1,hA,prs,_,hrun⟩;have s2:=s1.trans bc;refine#[zU (s2 _ _ ha) hi,λx h_ yl=>?_];obtain⟨e1,e2⟩:=zV (s2 _ _ ha) yl;subst e1;obtain⟨kk,hk,ik⟩:=Paired.getL pr e2;have ex:(Qm.toks e).drop (vs.length-(i+1))=kk::(Qm.toks e).drop (vs.length-i):=by
   rw[show vs.length-(i+1)=vs.length-1-i by lia,show vs.length-i=vs.length-1-i+1 by lia];have hlt:=(XZ.mp hk).1;rw[YU hlt]
   congr 1
   rw[XT hlt]at hk;exact XW hk
  have split:Qm.toks e=(Qm.toks e).take (vs.length-(i+1))++(kk::(Qm.toks e).drop (vs.length-i)):=by rw[<-ex,Zc]
  obtain⟨bw,hbw⟩:∃bw,gx bw (kk::(Qm.toks e).drop (vs.length-i)):=F7 (P:=(Qm.toks e).take (vs.length-(i+1))) (w:=1) (by rw[<-split];exact HK);have ar:=PY hbw hrun;have ml:kk.Ok:=tok kk (X_ hk);have fst:∀r∈st,aZ r:=GK fd (λq hq=>tok q (List.mem_of_mem_drop hq)) hrun;have rs:Qm.run (λj=>dr.getD j none) (kk::(Qm.toks e).drop (vs.length-i))=(qb (λj=>dr.getD j none) kk st).map (·::st.drop kk.arity):=by
   show(Qm.run _ _).bind _=_;rw[hrun];exact RL ar
  have lst:st.length<=1000:=by
   have e3:=prs.length;have e4:=vI hbw.2 hrun;have gen:∀(T:List Qm.Tok) (st:List Rows),Qm.run (λj=>dr.getD j none) T=some st->st.length<=T.length:=by
    intro T
    induction T with|nil=>intro st h;cases h;simp|cons k0 T ih=>
     intro st h;unfold Qm.run at h;cases q:Qm.run (λj=>dr.getD j none) T with|none=>rw[q]at h;cases h|some s0=>
      rw[q]at h;have a1:=ih s0 q;have a2:=(F8 (show c4 _ k0 s0=some st from h)).2;rw[X2]
      lia
   have:=gen _ _ hrun;rw[YN]at this
   lia
  refine#[_,rfl,_,rfl,_,rfl,x,W,dv,kk,ws,st,dr,rfl,hA,ik.mono s1,ml,prs,fst,ar,idr.mono s1,l8,λH2 ws' z s3 hW' df io=>?_];have mK:ag H (del H2 W):=s1.trans s3;refine#[z,rfl,rfl,_,rfl,bV (λh=>?_) (λh=>?_)]
  .refine k H2 _ (mK.trans bc) ?_;have sn:qb (λj=>dr.getD j none) kk st=none:=by
    cases q:qb (λj=>dr.getD j none) kk st with|none=>rfl|some b=>
     rw[q,h]at io;obtain⟨_,_,e,_⟩:=io;cases e
   rw[sn]at rs;rw[dw,split,F6 rs];rfl
  .cases q:qb (λj=>dr.getD j none) kk st with
   |none=>
    rw[q]at io;exact absurd io h
   |some b=>
    rw[q]at io rs;have lw:=df.length;refine#[_,rfl,.inl #[rfl,_,af.of hW'],_,rfl,W,ws',_,rfl,rfl,hW',Yq (show ws'.length<=1000 by rw[lw];simp;lia) (by decide),some x,some z,_,b::st.drop kk.arity,rfl,?_,ab,?_,hi,?_]
    .rw[cT];exact mK
    .rw[cT,YA];exact Paired.snoc df io
    .rw[ex,rs];rfl
 .rintro σ H' ⟨v3,v4,ws,st,rfl,s1,hA,prs,_,hrun⟩;rw[Nat.sub_self,aaj]at hrun;refine#[by show vs.length<=vs.length;exact X0 _,?_];have ls:=vI HK hrun
  match st,ls,prs,hrun with
  |[r],_,prs,hrun=>
   obtain⟨w0,y,rfl,p0,iy⟩:=Paired.mH (m:=[]) prs;cases p0;refine#[_,rfl,.inl #[rfl,_,af.of hA],W,_,y,rfl,rfl,hA,rfl,k _ _ ?_ ?_]
   .intro b o e;have q:=s1 _ _ e;obtain⟨q1,q2⟩:=iP q;rw[ae q1];exact q2
   .rw[dw,hrun];refine a_.mono ?_ iy;intro b o e;obtain⟨q1,q2⟩:=iP e;rw[ae q1];exact q2
open Kyq1 (Patch letter Exp)
def RP(_:Hp)(v:V)(b:Bool):Prop:=v=.bl b
structure j2(mg:ZQ):Prop extends Glob mg where
 wA:mg "sum"=none
 wB:mg "list"=none
 Ax:mg "sorted"=none
 jw:a8 mg "NAMES" 8
theorem HL(n i:Nat):Builtin.bitAnd ((n:Int) / 2^i) 1=((n / 2^i%2:Nat):Int):=by
 have h:=y3.N_ (x:=(n:Int) / 2^i) 1 (Int.ediv_nonneg (by lia) (L2.DM i));have e:((2:Int)^1-1)=1:=by decide
 rw[e]at h;rw[h];have e2:((2:Int)^i)=((2^i:Nat):Int):=by simp
 rw[e2];show((n:Int) / ((2^i:Nat):Int))%((2^1:Nat):Int)=_;rw[<-Int.natCast_ediv,<-Int.natCast_emod]
def mL(n i:Nat):Nat:=n / 2^i%2
theorem RQ(n i:Nat):mL n i=if n.testBit i=true then 1 else 0:=by
 unfold mL;have h:=Z9 (x:=n) (i:=i);rw[h];by_cases q:n / 2^i%2=1
 .rw[q];rfl
 .rw[if_neg (by simp[q])]
  lia
abbrev wC:Sp:=js cG cG (λ_ _=>True) RP (λn i=>n.testBit i)
theorem RR(D:bx K mg "has_bit" (top 66) ["bits","place"]):aH P w K mg base 1 "has_bit" ["bits","place"] wC:=by
 refine D.go ["bits","place"] λnd H vs Q E hr h=>?_;obtain⟨v,n,u,i,rfl,rfl,rfl,_,k⟩:=h;refine#[_,(ax (vq bL (aO DQ (aO DP (pv 0) (pv 1)) aw) aw)),?_];refine#[_,rfl,_,rfl,_,_,rfl,rfl,by lia,_,_,rfl,rfl,rfl,k H _ (ag.refl _) ?_];show V.bl (decide (V.int (Builtin.bitAnd ((n:Int) / 2^(i:Int).toNat) 1)=V.int 1))=V.bl (n.testBit i)
 congr 1
 rw[Yd,HL,Z9];by_cases q:n / 2^i%2=1
 .rw[q];rfl
 .rw[Yh q,Yh (λz=>q (by injection z with z;lia))]
def oe(n:Nat):Nat:=(f9 n).length
theorem RS(n:Nat):(((List.range 8).map λi=>mL n i).map λ(x:Nat)=>(x:Int)).sum=(oe n:Nat):=by
 have gen:∀l:List Nat,((l.map λi=>mL n i).map λ(x:Nat)=>(x:Int)).sum=((l.filter λj=>n.testBit j).length:Nat):=by
  intro l
  induction l with|nil=>rfl|cons a t ih=>
   rw[X7,X7,Zj,ih,RQ,ZM];split
   .rw[X2];lia
   .simp
 exact gen (List.range 8)
abbrev Ay:Sp:=fO cG (λ_=>True) cG oe
theorem RT(T:j2 mg)(D:bx K mg "count_bits" (top 67) ["bits"]):aH P w K mg base 1 "count_bits" ["bits"] Ay:=by
 refine D.go ["bits","place"] λnd H vs Q E hr h=>?_;obtain⟨v,n,rfl,rfl,_,k⟩:=h;refine#[_,(ax (kG (y_ K) (by rfl) T.wA (show bootBuiltins "sum"=some (.builtin "sum") by decide+kernel) (au (jP (iJ rfl T.eX (au (aE T.jw))) (fF (own:=[("place",1)]) (by rfl)) (λ_ _ _ _ _=>(bQ 1)) (λ_ _ _ _ _=>(aO DQ (aO DP (pv 0) (pv 1)) aw)))))),?_];refine#[8,rfl,by decide,by decide,λD hD=>jk (J:=gm 0 (Int.toNat 8)) (j:=1) cG (λ_ _ _ _ _ h=>h) ((List.range 8).map λi=>mL n i) (dD (by simp)) hD (λ_=>rfl) (λi y H' hy s1=>?_) (λH' s1=>?_) (λH' acc hA s1 df=>?_)]
 .have hi:i<8:=by
   have:=(XZ.mp hy).1;simpa using this
  refine#[by show i<_;exact hi,λx h_ yl=>?_];obtain⟨e1,rfl⟩:=yl;refine#[e1,λQ k'=>?_];rw[X1,Yn hi]at hy;have hy:mL n i=y:=XW hy;refine#[_,rfl,_,rfl,_,_,rfl,rfl,by lia,_,_,rfl,rfl,k' _ _ (ag.refl _) ?_];show V.int (Builtin.bitAnd ((n:Int) / 2^(0+(i:Int)).toNat) 1)=V.int (y:Nat);rw[YJ,Yd,HL,<-hy];rfl
 .show 8<=_;simp
 .have ea:acc=((List.range 8).map λi=>mL n i).map λ(x:Nat)=>V.int (x:Nat):=by
   have gen:∀ {l:List V} {m:List Nat},Paired (cG (del H' D)) l m->l=m.map λ(x:Nat)=>V.int (x:Nat):=by
    intro l m h
    induction h with|nil=>rfl|cons r _ ih=>rw[X7,ih,show _=_ from r]
   exact gen df
  refine#[D,(((List.range 8).map λi=>mL n i).map λ(x:Nat)=>(x:Int)),rfl,af.of ?_,k H' _ (s1.trans bc) ?_]
  .rw[hA,ea,Y1];rfl
  .rw[RS];rfl
def fQ(H:Hp)(v:V):Option Exp->Prop
 |none=>v=.ay
 |some e=>cp e/\(Qm.toks e).length<=1000/\c8 λa wv tv=>v=.ref a/\H a=some (.tup [wv,tv])/\dP H wv (Kyq1.written e)/\ig H tv (Qm.toks e)
theorem fQ.mono{o:Option Exp}(s:ag H H')(h:fQ H v o):fQ H' v o:=by
 cases o with|none=>exact h|some e=>
  obtain⟨a,b,c,wv,tv,e1,e2,e3,e4⟩:=h;exact#[a,b,c,wv,tv,e1,s _ _ e2,e3.mono s,e4.mono s]
def toldOf:Option Exp->Nat
 |none=>0
 |some e=>Qm.namesIn (Qm.toks e)
abbrev HM:Sp:=fO fQ (λ_=>True) cG toldOf
def RU(D:bx K mg "names_told" (top 68) ["entry"])(Az:aH P w K mg base 1 "names_in" ["tokens"] HH):aH P w K mg base 2 "names_told" ["entry"] HM:=by
 refine D.go ["entry"] λnd H vs Q E hr h=>?_;obtain⟨v,o,rfl,ie,_,k⟩:=h;refine#[_,(aM (aL jN (pv 0) b_) (ax aw) (ax (bh Az (au (bE K (pv 0) aw))))),?_];cases o with
 |none=>
  have ie:v=.ay:=ie;subst ie;exact#[_,rfl,rfl,_,rfl,jj (k H _ (ag.refl _) rfl)]
 |some e=>
  obtain⟨ok,l,a,wv,tv,rfl,ha,iw,it⟩:=ie;refine#[_,rfl,rfl,_,rfl,g8 ?_];exact#[_,rfl,a,_,_,_,rfl,rfl,aI.of ha,rfl,tv,Qm.toks e,rfl,it,jn ok,λH1 z s1 r1=>k H1 z s1 r1]
abbrev HN:Sp:=js dP cG (λt k=>t.length=8/\k<8) cG fK
def qc{α:Type}(f:α->Nat->α)(a:α)(n:Nat):(List.range (n+1)).foldl f a=f ((List.range n).foldl f a) n:=by
 rw[Zp,ZC];rfl
theorem RV(T:j2 mg)(D:bx K mg "names_used" (top 69) ["told","k"])(k7:aH P w K mg base 1 "has_bit" ["bits","place"] wC):aH P w K mg base 2 "names_used" ["told","k"] HN:=by
 refine D.go ["told","k","used","link","name"] λnd H vs Q E hr h=>?_;obtain⟨v,t,u,k0,rfl,⟨a,rfl,ha⟩,rfl,⟨l8,hk⟩,k⟩:=h;refine#[_,(aC (aR 2 (a0 K (pv 0) (pv 1))) (aC (dq PassesOwn.never rfl (iJ rfl T.eX (au (aE T.jw))) (bQ 3) (bF (dq PassesOwn.never rfl (iJ rfl T.eX (au (aE T.jw))) (bQ 4) (bF (gS (e_ (bh k7 (aU (pv 2) (pv 4))) (λ_=>rfl)) (bF (aR 2 (aO uQ (pv 2) (a0 K (pv 0) (pv 4))))) jK))))) (ax (pv 2)))),?_];refine#[_,rfl,_,rfl,a,_,_,_,rfl,rfl,af.of ha,cB (map_getD (by lia)),?_];refine#[8,rfl,by decide,by decide,jM (n:=8) (λi σ H'=>aX λv3 v4=>σ=[some (.ref a),some (.int (k0:Nat)),some (.int ((List.range i).foldl (λu _=>f7 t u) (t.getD k0 0):Nat)),v3,v4]/\ag H H') #[none,none,rfl,ag.refl _] ?_ ?_]
 .rintro i σ H1 hi ⟨v3,v4,rfl,s1⟩;refine#[8,rfl,by decide,by decide,jM (n:=8) (λj σ H'=>∃v4,σ=[some (.ref a),some (.int (k0:Nat)),some (.int ((List.range j).foldl (gy t) ((List.range i).foldl (λu _=>f7 t u) (t.getD k0 0)):Nat)),some (.int (0+(i:Nat))),v4]/\ag H H') #[v4,rfl,s1] ?_ ?_]
  .rintro j σ H2 hj ⟨vW,rfl,s2⟩;generalize hu:(List.range j).foldl (gy t) ((List.range i).foldl (λu _=>f7 t u) (t.getD k0 0))=u;refine#[_,rfl,_,rfl,_,u,_,j,rfl,rfl,by show V.int (0+(j:Int))=V.int j;rw[YJ],trivial,λH3 z s3 r3=>?_];cases r3;refine#[_,rfl,bg (λh=>?_) (λh=>?_)]
   .refine#[_,rfl,_,rfl,_,rfl,a,_,_,_,rfl,rfl,af.of ((s2.trans s3) _ _ ha),at_of (j:=j) (by rw[YJ]) (map_getD (by lia)),_,_,rfl,rfl,some (.int (0+(j:Nat))),?_,s2.trans s3];rw[qc,hu];have e:gy t u j=u|||t.getD j 0:=by unfold gy;rw[if_pos h]
    rw[e,<-v9];rfl
   .refine#[some (.int (0+(j:Nat))),?_,s2.trans s3];rw[qc,hu];have e:gy t u j=u:=by unfold gy;rw[if_neg h]
    rw[e];rfl
  .rintro σ H2 ⟨vW,rfl,s2⟩;refine#[some (.int (0+(i:Nat))),vW,?_,s2];rw[qc (λu _=>f7 t u)];rfl
 .rintro σ H2 ⟨v3,v4,rfl,s1⟩;exact#[_,rfl,k H2 _ s1 rfl]
open Kyq1 (Patch Exp)
open Kyq (Slots)
inductive c5(H:Hp)(v:V)(q:Kyq2.Rect):Prop|mk(a:_)(_:v=.ref a)(_:H a=some (.tup [.int (q.r:Nat),.int (q.c:Nat),.int (q.h:Nat),.int (q.w:Nat)]))
inductive jx(H:Hp)(b:Rows)(v:V)(q:Kyq2.Rect):Prop|mk(a av pv:_)(_:v=.ref a)(_:H a=some (.tup [av,pv]))(_:c5 H av q)(_:de H pv (Qm.at2 b q.r q.c))
inductive k_(H:Hp)(v:V)(b:Rows)(L:List Kyq2.Rect):Prop|mk(a vs:_)(_:v=.ref a)(_:H a=some (.lst vs))(_:Paired (jx H b) vs L)
structure cY where
 D:Addr
 N:Addr
 P:Addr
def kk:cY:=#[531,398,104]
def pT:Addr:=336
structure cY.Ok:Prop where
 dn:kk.D≠kk.N
 pn:kk.P≠kk.N
 pd:kk.P≠kk.D
def pf(na pa ea:Addr):List (Str×V):=[("numbers",.ref na),("pieces",.ref pa),("ends",.ref ea)]
inductive qd(H:Hp)(v:V)(b:Rows):Prop|mk(a dx na pa ea:_)(_:v=.ref a)(_:H a=some (.ins kk.P dx (pf na pa ea)))(_:dP H (.ref na) (Kyq2.numbers (Kyq.planFor (Qm.aq b))))(_:k_ H (.ref pa) b (Kyq.partsFor (Qm.aq b)))(_:dP H (.ref ea) (cX (Kyq.planFor (Qm.aq b)) 0))
def sV(H:Hp)(v:V)(d:Option Rows):Prop:=v=.ay\/∃b,d=some b/\qd H v b
section
variable(s:ag H H')
include s
theorem c5.mono(h:c5 H v q):c5 H' v q:=let⟨a,e,k⟩:=h;#[a,e,s _ _ k]
theorem jx.mono(h:jx H b v q):jx H' b v q:=let⟨a,av,pv,e,k,x,y⟩:=h;#[a,av,pv,e,s _ _ k,x.mono s,y.mono s]
theorem k_.mono{L:List Kyq2.Rect}(h:k_ H v b L):k_ H' v b L:=let⟨a,vs,e,k,r⟩:=h;#[a,vs,e,s _ _ k,Paired.aY r λ_ _ z=>z.mono s]
theorem qd.mono(h:qd H v b):qd H' v b:=let⟨a,dx,na,pa,ea,e,k,x,y,z⟩:=h;#[a,dx,na,pa,ea,e,s _ _ k,x.mono s,y.mono s,z.mono s]
theorem sV.mono{d:Option Rows}(h:sV H v d):sV H' v d:=h.imp id λ⟨b,e,z⟩=>#[b,e,z.mono s]
end
abbrev Gh:=List (Addr×Addr)
def fz(G:Gh)(H:Hp):Hp:=λb=>match H b with
 |some (.lst xs)=>if b∈G.map Prod.snd then none else some (.lst xs)
 |some (.tup xs)=>some (.tup xs)
 |some (.ins c dx fs)=>if c=kk.P then some (.ins c dx fs)else none
 |_=>none
section
variable{b:Addr}
def j3(h:H b=some (.lst xs))(n:b∉G.map Prod.snd):fz G H b=some (.lst xs):=by unfold fz;rw[h];exact if_neg n
def mM(h:H b=some (.tup xs)):fz G H b=some (.tup xs):=by unfold fz;rw[h]
def HP{fs:List (Str×V)}(h:H b=some (.ins kk.P dx fs)):fz G H b=some (.ins kk.P dx fs):=by unfold fz;rw[h];exact if_pos rfl
set_option tactic.hygienic true in
def dQ(h:fz G H b=some o):H b=some o/\((∃xs,o=.lst xs/\b∉G.map Prod.snd)\/(∃xs,o=.tup xs)\/aX λdx fs=>o=.ins kk.P dx fs):=by
 unfold fz at h;split at h
 .rename_i xs e;by_cases c:b∈G.map Prod.snd
  .rw[if_pos c]at h;cases h
  .rw[if_neg c]at h;cases h;exact#[e,.inl #[_,rfl,c]]
 .rename_i xs e;cases h;exact#[e,.inr (.inl #[_,rfl])]
 .rename_i c dx fs e;by_cases z:c=kk.P
  .rw[if_pos z]at h;cases h;exact#[e,.inr (.inr #[dx,fs,by rw[z]])]
  .rw[if_neg z]at h;cases h
 .cases h
def cZ:ag (fz G H) H:=λ_ _ e=>(dQ e).1
def jy(k:∀b o,fz G H b=some o->H' b=some o)(g:∀a∈G'.map Prod.snd,a∈G.map Prod.snd\/H a=none):ag (fz G H) (fz G' H'):=λb o e=>by
 have h':=k b o e;obtain⟨e1,⟨xs,rfl,n⟩|⟨xs,rfl⟩|⟨dx,fs,rfl⟩⟩:=dQ e
 .refine j3 h' λz=>?_;rcases g b z with z|z
  .exact n z
  .rw[z]at e1;cases e1
 .exact mM h'
 .exact HP h'
def iR(s:ag H H'):ag (fz G H) (fz G H'):=jy (λ_ _ e=>s _ _ (dQ e).1) λ_ h=>.inl h
def HQ{x:Addr×Addr}(s:ag H H')(n:H x.2=none):ag (fz G H) (fz (x::G) H'):=jy (λ_ _ e=>s _ _ (dQ e).1) λa h=>by
 rcases X5.mp h with z|z
 .exact .inr (z▸n)
 .exact .inl z
def HR(e:fz G H b=some o)(h:H b=some (.lst xs)):b∉G.map Prod.snd:=by
 obtain⟨e1,⟨ys,rfl,n⟩|⟨ys,rfl⟩|⟨dx,fs,rfl⟩⟩:=dQ e
 .exact n
 .rw[h]at e1;cases e1
 .rw[h]at e1;cases e1
structure bT(G:Gh)(H:Hp):Prop where
 nd:(G.map Prod.snd).Nodup
 at_:∀a∈G.map Prod.snd,∃xs,H a=some (.lst xs)
def bT.mono(s:ag H H')(g:bT G H):bT G H':=#[g.nd,λa h=>let⟨xs,e⟩:=g.at_ a h;#[xs,s _ _ e]]
def bT.out(g:bT G H)(n:H b=none):b∉G.map Prod.snd:=λz=>by
 obtain⟨xs,e⟩:=g.at_ b z;rw[n]at e;cases e
def bT.to(g:bT G H)(k:∀b xs,H b=some (.lst xs)->b∈G.map Prod.snd->∃ys,H' b=some (.lst ys)):bT G H':=#[g.nd,λa h=>let⟨xs,e⟩:=g.at_ a h;k a xs e h]
def bT.cons{x:Addr×Addr}(g:bT G H)(k:∀b xs,H b=some (.lst xs)->b∈G.map Prod.snd->∃ys,H' b=some (.lst ys))(n:H x.2=none)(h:H' x.2=some (.lst xs)):bT (x::G) H':=#[Y5.mpr #[g.out n,g.nd],λa ha=>by
 rcases X5.mp ha with z|z
 .exact⟨xs,z▸h⟩
 .exact(g.to k).at_ a z]
def bT.one(g:bT G H){p p' a:Addr}(h:(p,a)∈G)(h':(p',a)∈G):p=p':=by
 have nd:=g.nd;clear g
 induction G with|nil=>cases h|cons x G ih=>
  rw[X7,Y5]at nd;rcases X5.mp h with z|z
  .rcases X5.mp h' with y|y
   .rw[<-z]at y;cases y;rfl
   .exact absurd (by rw[<-z];exact(Zx (f:=Prod.snd) y:a∈G.map Prod.snd)) nd.1
  .rcases X5.mp h' with y|y
   .exact absurd (by rw[<-y];exact(Zx (f:=Prod.snd) z:a∈G.map Prod.snd)) nd.1
   .exact ih z y nd.2
def iA{a:Addr}(h:(p,a)∈G):a∈G.map Prod.snd:=Zx (f:=Prod.snd) h
end
def dy{g:Str}{x:V}(h:g≠f):aQ f v ((g,x)::r)=(g,x)::aQ f v r:=if_neg h
def qe{x:V}:aQ f v ((f,x)::r)=(f,v)::r:=if_pos rfl
def n3(ea ua:Addr)(dv:V):List (Str×V):=[("entries",.ref ea),("used",.ref ua),("drawings",dv)]
def nf(ea ua:Addr)(dv:V)(pa:Addr):List (Str×V):=[("entries",.ref ea),("used",.ref ua),("drawings",dv),("plans",.ref pa)]
def RW(x:V):aQ "entries" x []=([("entries",x)]:List (Str×V)):=rfl
def RX(x y:V):aQ "used" y ([("entries",x)]:List (Str×V))=([("entries",x),("used",y)]:List (Str×V)):=by rw[dy (by decide+kernel)];rfl
def RY(ea ua:Addr)(z:V):aQ "drawings" z ([("entries",.ref ea),("used",.ref ua)]:List (Str×V))=n3 ea ua z:=by rw[dy (by decide+kernel),dy (by decide+kernel)];rfl
def RZ(ea ua pa:Addr)(z:V):aQ "plans" (.ref pa) (n3 ea ua z)=nf ea ua z pa:=by unfold n3;rw[dy (by decide+kernel),dy (by decide+kernel),dy (by decide+kernel)];rfl
def R0(ea ua pa:Addr)(y z:V):aQ "drawings" z (nf ea ua y pa)=nf ea ua z pa:=by unfold nf;rw[dy (by decide+kernel),dy (by decide+kernel),qe]
def HS(ea ua:Addr)(dv:V)(pa:Addr):(nf ea ua dv pa).lookup ("entries":Str)=some (.ref ea):=rfl
structure dW(K:ZX)(C:Addr):Prop where
 cl:d9 K C
 nE:du K C "entries"
 nU:du K C "used"
 nD:du K C "drawings"
 nP:du K C "plans"
inductive og(H:Hp)(v:V)(l:Slots):Prop|mk(a vs:_)(_:v=.ref a)(_:H a=some (.lst vs))(_:Paired (fQ H) vs l)
theorem og.mono(s:ag H H')(h:og H v l):og H' v l:=by
 obtain⟨a,vs,e,q,r⟩:=h;exact#[a,vs,e,s _ _ q,Paired.aY r λ_ _ z=>z.mono s]
def c3(l:Slots):List Nat:=(List.range 8).map (fK (l.map toldOf))
def iS(l:Slots):List (Option Rows):=(List.range 8).map (bM l)
inductive ck(G:Gh)(H:Hp)(p:Addr)(l:Slots):Prop|mk(dx ea ua dv pa ps:_)(_:H p=some (.ins kk.N dx (nf ea ua dv pa)))(_:(p,pa)∈G)(_:H pa=some (.lst ps))(_:og (fz G H) (.ref ea) l)(_:dP (fz G H) (.ref ua) (c3 l))(_:(dv=.ay\/j1 (fz G H) dv (iS l)))(_:Paired (sV (fz G H)) ps (iS l))
def ck.keep(h:ck G H p l)(hp:∀o,H p=some o->H' p=some o)(ha:∀a o,(p,a)∈G->H a=some o->H' a=some o)(hG:∀x∈G,x∈G')(s:ag (fz G H) (fz G' H')):ck G' H' p l:=by
 obtain⟨dx,ea,ua,dv,pa,ps,a,b,c,d,e,f,g⟩:=h;exact#[dx,ea,ua,dv,pa,ps,hp _ a,hG _ b,ha _ _ b c,d.mono s,e.mono s,f.imp id λz=>z.mono s,Paired.aY g λ_ _ z=>z.mono s]
def ck.mono(s:ag H H')(h:ck G H p l):ck G H' p l:=h.keep (λ_ e=>s _ _ e) (λ_ _ _ e=>s _ _ e) (λ_ e=>e) (iR s)
def oh{fs:List (Str×V)}(h:H p=some (.ins c dx fs))(hc:c≠kk.P){b:Addr}(e:fz G H b=some o):b≠p:=λz=>by
 rw[z]at e;obtain⟨e1,⟨xs,rfl,n⟩|⟨xs,rfl⟩|⟨dx,fs,rfl⟩⟩:=dQ e
 .rw[h]at e1;cases e1
 .rw[h]at e1;cases e1
 .rw[h]at e1;cases e1;exact hc rfl
theorem qf:∀ {l:List V} {m:List Nat},Paired (cG H) l m->l=m.map λ(x:Nat)=>V.int (x:Nat)
 |_,_,.nil=>rfl
 |_,_,.cons r t=>by rw[X7,<-qf t,<-(show _=_ from r)]
def cq(p:Addr)(H H':Hp):Prop:=∀b o,H b=some o->b≠p->H' b=some o
def wD{C:Addr}{fs:List (Str×V)}(h:H p=some (.ins C dx fs)){b:Addr}(e:H b=some o)(ho:∀C dx fs,o≠.ins C dx fs):b≠p:=λz=>by
 rw[z,h]at e;exact ho _ _ _ (XW e).symm
inductive AA(vs:List V)(H:Hp)(Q:VK)(E:XK):Prop|mk(p dx ev l G:_)(_:vs=[.ref p,ev])(_:H p=some (.ins kk.N dx []))(_:bT G H)(_:og (fz G H) ev l)(_:l.length=8)(_:∀H' pa,cq p H H'->H pa=none->bT ((p,pa)::G) H'->ck ((p,pa)::G) H' p l->Q .ay H')
theorem R1(T:j2 mg)(ok:cY.Ok)(N:dW K kk.N)(F:aX λf fd=>d_ K "__init__" "Names.__init__" (inClass (top 71) 0) f fd/\Mk K kk.N f/\Binds K fd ["self","entries"] [])(hC:mg "Names"=some (.ref kk.N))(AB:aH P w K mg base 2 "names_told" ["entry"] HM)(AD:aH P w K mg base 2 "names_used" ["told","k"] HN):
  fZ P w K mg base 3 "Names" kk.N ["self","entries"] (AA):=by
 obtain⟨f,fd,F,M,b⟩:=F;refine#[hC,f,fd,M,b,F.go ["self","entries","told","entry","k"] λnd H vs Q E hr h=>?_];obtain⟨p,dx,ev,l,G,rfl,hp,gk,⟨ea,vs,rfl,eK,pr⟩,l8,k⟩:=h;refine#[_,(aC (x9 (i:=2) nd rfl (Or.inr rfl) (jP (gq (pv 1)) (fF (own:=[("entry",3)]) (by rfl)) (λ_ _ _ _ _=>(bQ 3)) (λ_ _ _ _ _=>(bh AB (au (pv 3)))))) (aC (cj (pv 0) (pv 1) rfl) (aC (cj (pv 0) (jP (iJ rfl T.eX (au (aE T.jw))) (fF (own:=[("k",4)]) (by rfl)) (λ_ _ _ _ _=>(bQ 4)) (λ_ _ _ _ _=>(bh AD (aU (pv 2) (pv 4))))) rfl) (aC (cj (pv 0) b_ rfl) (bF (cj (pv 0) (aO jg (aV (au b_)) (aE T.jw)) rfl)))))),?_];have ln:=pr.length;have wF:=cZ _ _ eK;refine#[_,rfl,ea,rfl,#[vs,af.of wF],λD hD=>jk (J:=gT K ea) (j:=3) cG (λ_ _ _ _ _ h=>h) (l.map toldOf) (dD (by simp;lia)) hD (λ_=>rfl) (λi y H' hy s1=>?_) (λH' s1=>?_) (λH1 acc hA s1 df=>?_)]
 .have s2:=s1.trans bc;obtain⟨o,ho,rfl⟩:∃o,l[i]?=some o/\toldOf o=y:=by
   rw[X1]at hy;cases q:l[i]? with|none=>rw[q]at hy;cases hy|some o=>rw[q]at hy;exact#[o,rfl,XW hy]
  obtain⟨u,hu,iu⟩:=Paired.get pr ho;refine#[sG (s2 _ _ wF) (XZ.mp hu).1,λx h_ yl=>?_];obtain⟨e1,e2⟩:=sI (s2 _ _ wF) yl;rw[hu]at e2;cases e2;refine#[e1,λQ k'=>?_];exact#[_,rfl,u,o,rfl,(iu.mono cZ).mono s1,trivial,λH3 z s3 r3=>k' z H3 s3 r3]
 .exact sJ (s1.trans bc _ _ wF) (by simp;lia)
 have hA:H1 D=some (.lst ((l.map toldOf).map λ(x:Nat)=>V.int (x:Nat))):=by rw[hA,qf df]
 have s1:=s1.trans bc;have hp1:=s1 _ _ hp;refine#[_,rfl,_,rfl,p,kk.N,dx,[],rfl,hp1,N.cl,N.nE,(by show 0<1000;decide),?_];rw[RW];have hp2:upd H1 p (.ins kk.N dx ([("entries",V.ref ea)]:List (Str×V))) p=some (.ins kk.N dx ([("entries",V.ref ea)]:List (Str×V))):=ab;have Dp:D≠p:=wD hp1 hA (λ_ _ _=>by intro z;cases z);have mN:upd H1 p (.ins kk.N dx ([("entries",V.ref ea)]:List (Str×V))) D=some (.lst ((l.map toldOf).map λ(x:Nat)=>V.int (x:Nat))):=by rw[ae Dp];exact hA
 refine#[8,rfl,by decide,by decide,λU hU=>jk (J:=gm 0 (Int.toNat 8)) (j:=4) cG (λ_ _ _ _ _ h=>h) (c3 l) (dD (by simp[c3])) hU (λ_=>rfl) (λi y H' hy s3=>?_) (λH' s3=>?_) (λH3 qg hB s3 AE=>?_)]
 .have hi:i<8:=by
   have:=(XZ.mp hy).1;simpa[c3]using this
  refine#[by show i<_;exact hi,λx h_ yl=>?_];obtain⟨e1,rfl⟩:=yl;refine#[e1,λQ k'=>?_];unfold c3 at hy;rw[X1,Yn hi]at hy;have hy:fK (l.map toldOf) i=y:=XW hy;subst hy;exact#[_,rfl,_,rfl,.ref D,l.map toldOf,_,i,rfl,#[D,rfl,s3 _ _ mN],by show V.int (0+(i:Int))=V.int i;rw[YJ],#[by simp;lia,hi],λH3 z s4 r4=>k' z H3 s4 r4]
 .show 8<=_;simp[c3]
 have hB:H3 U=some (.lst ((c3 l).map λ(x:Nat)=>V.int (x:Nat))):=by rw[hB,qf AE]
 have s3:=s3.trans bc;have hp3:=s3 _ _ hp2;refine#[_,rfl,p,kk.N,dx,_,rfl,hp3,N.cl,N.nU,(by show 1<1000;decide),?_];rw[RX];refine#[_,rfl,p,kk.N,dx,_,rfl,ab,N.cl,N.nD,(by show 2<1000;decide),?_];rw[RY,L2.d7];have k3:∀b o,H b=some o->b≠p->upd H3 p (.ins kk.N dx (n3 ea U .ay)) b=some o:=λb o e n=>by
  rw[ae n];exact s3 _ _ (by rw[ae n];exact s1 _ _ e)
 have Up:U≠p:=wD hp3 hB (λ_ _ _=>by intro z;cases z);have nU:H U=none:=Ye.mpr λo e=>by
  rw[ae Up,s1 _ _ e]at hU;cases hU
 refine#[bu,λZ hZ=>#[Z,8,[.ay],rfl,rfl,ab,by decide,by decide,(by show 1*8<=sizeLine;decide),λL hL=>?_]];have sZ:=ai (o:=HO.lst [V.ay]) hZ;have sL:=ai (o:=HO.lst (List.replicate (Int.toNat 8) [V.ay]).flatten) hL;have wH:=sL _ _ (sZ _ _ (ab (H:=H3) (a:=p) (o:=HO.ins kk.N dx (n3 ea U .ay))));refine#[_,rfl,p,kk.N,dx,_,rfl,wH,N.cl,N.nP,(by show 3<1000;decide),?_];rw[RZ];have Lp:L≠p:=λz=>by rw[z]at hL;rw[sZ _ _ ab]at hL;cases hL
 have keep:∀b o,H b=some o->b≠p->upd (upd (upd (upd H3 p (.ins kk.N dx (n3 ea U .ay))) Z (.lst [.ay])) L (.lst (List.replicate (Int.toNat 8) [V.ay]).flatten)) p (.ins kk.N dx (nf ea U .ay L)) b=some o:=λb o e n=>by
  rw[ae n];exact sL _ _ (sZ _ _ (k3 b o e n))
 have nL:H L=none:=Ye.mpr λo e=>by
  rw[sZ _ _ (k3 L o e Lp)]at hL;cases hL
 have HU:upd (upd (upd (upd H3 p (.ins kk.N dx (n3 ea U .ay))) Z (.lst [.ay])) L (.lst (List.replicate (Int.toNat 8) [V.ay]).flatten)) p (.ins kk.N dx (nf ea U .ay L)) L=some (.lst (List.replicate (Int.toNat 8) [V.ay]).flatten):=by rw[ae Lp];exact ab
 have R3:upd (upd (upd (upd H3 p (.ins kk.N dx (n3 ea U .ay))) Z (.lst [.ay])) L (.lst (List.replicate (Int.toNat 8) [V.ay]).flatten)) p (.ins kk.N dx (nf ea U .ay L)) U=some (.lst ((c3 l).map λ(x:Nat)=>V.int (x:Nat))):=by
  rw[ae Up];exact sL _ _ (sZ _ _ (by rw[ae Up];exact hB))
 have UL:U≠L:=λz=>by
  rw[<-z,sZ _ _ (by rw[ae Up];exact hB)]at hL;cases hL
 have data:=jy (G:=G) (G':=(p,L)::G) (λb o e=>keep b o (dQ e).1 (oh hp (Ne.symm ok.pn) e)) λa h=>by
  rcases X5.mp h with z|z
  .exact .inr (z▸nL)
  .exact .inl z
 refine k _ L keep nL (gk.cons (λb xs e _=>#[xs,keep b _ e (wD hp e (λ_ _ _=>by intro z;cases z))]) nL HU) #[dx,ea,U,.ay,L,_,ab,Ym ..,HU,#[ea,vs,rfl,data _ _ eK,Paired.aY pr λ_ _ z=>z.mono data],#[U,rfl,j3 R3 ?_],.inl rfl,?_]
 .intro h;rcases X5.mp h with z|z
  .exact UL z
  .exact gk.out nU z
 .show Paired _ [V.ay,V.ay,V.ay,V.ay,V.ay,V.ay,V.ay,V.ay] [bM l 0,bM l 1,bM l 2,bM l 3,bM l 4,bM l 5,bM l 6,bM l 7];exact .cons (.inl rfl) (.cons (.inl rfl) (.cons (.inl rfl) (.cons (.inl rfl) (.cons (.inl rfl) (.cons (.inl rfl) (.cons (.inl rfl) (.cons (.inl rfl) .nil)))))))
theorem Paired.wI{α β:Type}{F:α->β->Prop}{x:α}{y:β}(h:F x y):∀ {l:List α} {m:List β} (i:Nat),Paired F l m->Paired F (l.set i x) (m.set i y)
 |_,_,_,.nil=>.nil
 |_,_,0,.cons _ t=>.cons h t
 |_,_,i+1,.cons r t=>.cons r (Paired.wI h i t)
def qh{b:Addr}(h:H b=some (.lst xs)):fz [] H b=some (.lst xs):=j3 h (by simp)
theorem de.fz{p:Patch}(h:de H v p):de (fz [] H) v p:=let⟨a,e,q⟩:=h;#[a,e,mM q]
theorem eC.fz{p:List Patch}(h:eC H v p):eC (QS.fz [] H) v p:=let⟨a,vs,e,q,r⟩:=h;#[a,vs,e,qh q,Paired.aY r λ_ _ z=>z.fz]
theorem a_.fz{p:Rows}(h:a_ H v p):a_ (QS.fz [] H) v p:=let⟨a,vs,e,q,r⟩:=h;#[a,vs,e,qh q,Paired.aY r λ_ _ z=>z.fz]
def R4{p:Option Rows}(h:bW a_ H v p):bW a_ (QS.fz [] H) v p:=by
 cases p with|none=>exact h|some x=>exact a_.fz h
theorem j1.fz{l:List (Option Rows)}(h:j1 H v l):j1 (QS.fz [] H) v l:=let⟨a,vs,e,q,r⟩:=h;#[a,vs,e,qh q,Paired.aY r λ_ _ z=>R4 z]
theorem eJ.fz(h:eJ H v k):eJ (QS.fz [] H) v k:=by
 obtain⟨a,u,e,q,r⟩:=h;refine#[a,u,e,mM q,?_];cases k with|patch p=>exact de.fz r|_=>exact r
theorem ig.fz{l:List Qm.Tok}(h:ig H v l):ig (QS.fz [] H) v l:=let⟨a,vs,e,q,r⟩:=h;#[a,vs,e,qh q,Paired.aY r λ_ _ z=>z.fz]
theorem fQ.fz{o:Option Exp}(h:fQ H v o):fQ (QS.fz [] H) v o:=by
 cases o with|none=>exact h|some e=>
  obtain⟨a,b,c,wv,tv,e1,e2,⟨x,e3,h3⟩,e4⟩:=h;exact#[a,b,c,wv,tv,e1,mM e2,#[x,e3,qh h3],e4.fz]
def HV(g:bT G H):ag (QS.fz G H) (off (G.map Prod.snd) H):=λb o e=>by
 obtain⟨e1,h⟩:=dQ e;rw[dC λz=>?_]
 .exact e1
 .obtain⟨xs,q⟩:=g.at_ b z;rw[q]at e1;rcases h with⟨ys,rfl,n⟩|⟨ys,rfl⟩|⟨dx,fs,rfl⟩
  .exact n z
  .cases e1
  .cases e1
theorem bT.ins(g:bT G H){fs:List (Str×V)}(h:H p=some (.ins c dx fs)):p∉G.map Prod.snd:=λz=>by
 obtain⟨xs,q⟩:=g.at_ p z;rw[h]at q;cases q
def wJ(l:Slots):(c3 l).length=8:=by simp[c3]
inductive qi(vs:List V)(H:Hp)(Q:VK)(E:XK):Prop|mk(p l k G:_)(_:vs=[.ref p,.int (k:Nat)])(_:ck G H p l)(_:l.length=8)(_:Q (.bl (Kyq.at_ l k).isSome) H)
theorem R5(T:j2 mg)(N:dW K kk.N)(D:bI K kk.N "stands" "Names.stands" (inClass (top 71) 1) ["self","k"]):aF P w K mg base 1 kk.N "stands" ["self","k"] (qi):=by
 refine D.go ["self","k"] N.cl λnd H vs Q E hr h=>?_;obtain⟨p,l,k,G,rfl,⟨dx,ea,ua,dv,pa,ps,hp,_,_,⟨_,vs,ee,eK,pr⟩,_⟩,l8,q⟩:=h;cases ee;have eK:=cZ _ _ eK;refine#[_,(ax (xZ (vq gu (pv 1) (aE T.jw)) (Dy (vq yi (a0 K (aK K (pv 0)) (pv 1)) b_)))),?_];refine#[_,rfl,_,_,rfl,rfl,_,rfl,bV (λh=>?_) (λh=>?_)]
 .have h:k<8:=by lia
  obtain⟨o,ho⟩:∃o,l[k]?=some o:=#[_,XT (by lia)]
  obtain⟨u,hu,iu⟩:=Paired.get pr ho;refine#[_,rfl,p,kk.N,dx,_,_,rfl,hp,N.cl,N.nE,rfl,_,rfl,_,vs,_,u,rfl,rfl,af.of eK,cB hu,rfl,?_];have e:Kyq.at_ l k=o:=by unfold Kyq.at_;rw[XU,ho];rfl
  rw[e]at q;cases o with
  |none=>
   have iu:u=.ay:=iu;subst iu;exact q
  |some e=>
   obtain⟨_,_,a,_,_,rfl,_⟩:=iu;exact q
 .have e:Kyq.at_ l k=none:=by unfold Kyq.at_;rw[XU,Yu (by lia)];rfl
  rw[e]at q;exact q
inductive AF(vs:List V)(H:Hp)(Q:VK)(E:XK):Prop|mk(p l k ev o G:_)(_:vs=[.ref p,.int (k:Nat),ev])(_:bT G H)(_:ck G H p l)(_:l.length=8)(_:k<8)(_:fQ (fz G H) ev o)(_:∀H' q pa,ag H H'->H q=none->H pa=none->bT ((q,pa)::G) H'->ck ((q,pa)::G) H' q (l.set k o)->Q (.ref q) H')
theorem R6(T:j2 mg)(N:dW K kk.N)(D:bI K kk.N "with_entry" "Names.with_entry" (inClass (top 71) 2) ["self","k","entry"])(qj:fZ P w K mg base 3 "Names" kk.N ["self","entries"] (AA)):aF P w K mg base 5 kk.N "with_entry" ["self","k","entry"] (AF):=by
 refine D.go ["self","k","entry","entries"] N.cl λnd H vs Q E hr h=>?_;obtain⟨p,l,k,ev,o,G,rfl,gk,⟨dx,ea,ua,dv,pa,ps,hp,_,_,⟨_,vs,ee,eK,pr⟩,_⟩,l8,hk,ie,q⟩:=h;cases ee;have eK:=cZ _ _ eK;refine#[_,(aC (aR 3 (uY (listS K) (by rfl) T.wB (show bootBuiltins "list"=some (.type "list") by decide+kernel) (au (aK K (pv 0))))) (aC (o7 (pv 2) (o6 (pv 3) (pv 1) set_list)) (ax (y8 qj (au (pv 3)))))),?_];have ln:=pr.length;refine#[_,rfl,p,kk.N,dx,_,_,rfl,hp,N.cl,N.nE,rfl,_,vs,rfl,.inl (af.of eK),λL hL=>?_];refine#[_,rfl,_,rfl,_,rfl,L,vs,_,k,rfl,rfl,ab,?_,?_]
 .unfold fW;rw[if_pos (by lia),if_pos (by lia),Yd]
 rw[L2.d7];refine#[_,rfl,λx iT nx ndx jz=>?_];have sL:ag H (upd H L (.lst (vs.set k ev))):=ai hL;have sN:ag (upd H L (.lst (vs.set k ev))) (upd (upd (upd H L (.lst (vs.set k ev))) iT (.own x)) x (.ins kk.N iT [])):=(ai ndx).trans (ai (by rw[ae (Ne.symm jz)];exact nx));have R7:=gk.mono (sL.trans sN);have dt:=iR (G:=G) (sL.trans sN);have LG:L∉G.map Prod.snd:=gk.out hL;refine#[x,iT,_,l.set k o,G,rfl,ab,R7,#[L,_,rfl,j3 (sN _ _ ab) LG,Paired.wI (ie.mono dt) k (Paired.aY pr λ_ _ z=>z.mono dt)],by simp[l8],λH' qk sx sY R8 na=>#[rfl,q H' x qk ?_ ?_ ?_ R8 na]]
 .intro b ob e;have e1:=sL _ _ e;exact sx _ _ (sN _ _ e1) (bH e1 nx)
 .exact Ye.mpr λo e=>by rw[sL _ _ e]at nx;cases nx
 .exact Ye.mpr λo e=>by rw[sN _ _ (sL _ _ e)]at sY;cases sY
inductive HW(vs:List V)(H:Hp)(Q:VK)(E:XK):Prop|mk(p l k G:_)(_:vs=[.ref p,.int (k:Nat)])(_:ck G H p l)(_:k<8)(_:∀H',ag H H'->Q (.bl (((c3 l).getD k 0).testBit k)) H')
def R9(N:dW K kk.N)(D:bI K kk.N "uses_itself" "Names.uses_itself" (inClass (top 71) 3) ["self","k"])(k7:aH P w K mg base 1 "has_bit" ["bits","place"] wC):aF P w K mg base 2 kk.N "uses_itself" ["self","k"] (HW):=by
 refine D.go ["self","k"] N.cl λnd H vs Q E hr h=>?_;obtain⟨p,l,k,G,rfl,⟨dx,ea,ua,dv,pa,ps,hp,_,_,_,⟨_,ee,dA⟩,_⟩,hk,q⟩:=h;cases ee;have dA:=cZ _ _ dA;refine#[_,(ax (bh k7 (aU (a0 K (aK K (pv 0)) (pv 1)) (pv 1)))),?_];refine#[_,rfl,p,kk.N,dx,_,_,rfl,hp,N.cl,N.nU,rfl,_,rfl,_,_,_,_,rfl,rfl,af.of dA,cB (map_getD (by rw[wJ];exact hk)),_,rfl,_,_,_,k,rfl,rfl,rfl,trivial,λH1 z s1 r1=>?_];cases r1;exact q H1 s1
def cO(l:Slots)(k i:Nat):Nat:=(List.range i).foldl (λb n=>if((c3 l).getD n 0).testBit k=true then b|||1<<<n else b) 0
inductive AG(vs:List V)(H:Hp)(Q:VK)(E:XK):Prop|mk(p l k G:_)(_:vs=[.ref p,.int (k:Nat)])(_:ck G H p l)(_:∀H',ag H H'->Q (.int (cO l k 8:Nat)) H')
theorem R_(T:j2 mg)(N:dW K kk.N)(D:bI K kk.N "users_of" "Names.users_of" (inClass (top 71) 4) ["self","k"])(k7:aH P w K mg base 1 "has_bit" ["bits","place"] wC):aF P w K mg base 2 kk.N "users_of" ["self","k"] (AG):=by
 refine D.go ["self","k","bits","name"] N.cl λnd H vs Q E hr h=>?_;obtain⟨p,l,k,G,rfl,⟨dx,ea,ua,dv,pa,ps,hp,_,_,_,⟨_,ee,dA⟩,_⟩,q⟩:=h;cases ee;have dA:=cZ _ _ dA;refine#[_,(aC (aR 2 aw) (aC (dq PassesOwn.never rfl (iJ rfl T.eX (au (aE T.jw))) (bQ 3) (bF (gS (e_ (bh k7 (aU (a0 K (aK K (pv 0)) (pv 3)) (pv 1))) (λ_=>rfl)) (bF (aR 2 (aO uQ (pv 2) (aO yg aw (pv 3))))) jK))) (ax (pv 2)))),?_];refine#[8,rfl,by decide,by decide,jM (n:=8) (λi σ H'=>∃v3,σ=[some (.ref p),some (.int (k:Nat)),some (.int (cO l k i:Nat)),v3]/\ag H H') #[none,rfl,ag.refl _] ?_ ?_]
 .rintro i σ H' hi ⟨v3,rfl,s1⟩;refine#[_,rfl,p,kk.N,dx,_,_,rfl,s1 _ _ hp,N.cl,N.nU,rfl,_,rfl,_,_,_,_,rfl,rfl,af.of (s1 _ _ dA),at_of (j:=i) (by rw[YJ]) (map_getD (by rw[wJ];exact hi)),_,rfl,_,_,_,k,rfl,rfl,rfl,trivial,λH1 z s2 r1=>?_];cases r1;refine#[_,rfl,bg (λh=>?_) (λh=>?_)]
  .refine#[_,rfl,_,rfl,_,_,rfl,rfl,#[by lia,by lia,by decide],_,_,rfl,rfl,some (.int (0+(i:Nat))),?_,s1.trans s2];have e:cO l k (i+1)=cO l k i|||1<<<i:=by
    unfold cO;rw[qc,if_pos h]
   rw[e,Z3,<-v9];show[some (V.ref p),some (V.int (k:Nat)),some (V.int (Builtin.bitOr ((cO l k i:Nat):Int) (1*2^(0+(i:Int)).toNat))),some (V.int (0+(i:Nat)))]=_;rw[YJ,Yd,Int.one_mul]
   congr 4
  .refine#[some (.int (0+(i:Nat))),?_,s1.trans s2];have e:cO l k (i+1)=cO l k i:=by
    unfold cO;rw[qc,if_neg h]
   rw[e];rfl
 .rintro σ H' ⟨v3,rfl,s1⟩;exact#[_,rfl,q H' s1]
def HX:Sp:=λvs H Q _=>vs=[]/\∀H' q pa,ag H H'->H q=none->H pa=none->bT [(q,pa)] H'->ck [(q,pa)] H' q Kyq.none8->Q (.ref q) H'
def Sa(T:j2 mg)(D:bx K mg "no_names" (top 72) [])(qj:fZ P w K mg base 3 "Names" kk.N ["self","entries"] (AA)):aH P w K mg base 5 "no_names" [] (HX):=by
 refine D.go [] λnd H vs Q E hr h=>?_;obtain⟨rfl,q⟩:=h;refine#[_,(ax (y8 qj (au (aO jg (aV (au b_)) (aE T.jw))))),?_];refine#[bu,λZ hZ=>#[Z,8,[.ay],rfl,rfl,ab,by decide,by decide,(by show 1*8<=sizeLine;decide),λL hL=>?_]];intro x iT nx ndx jz;have sZ:ag H (upd H Z (.lst [.ay])):=ai hZ;have sL:=ai (o:=HO.lst (List.replicate (Int.toNat 8) [V.ay]).flatten) hL;have sD:=ai (o:=HO.own x) ndx;have wK:upd (upd (upd H Z (.lst [.ay])) L (.lst (List.replicate (Int.toNat 8) [V.ay]).flatten)) iT (.own x) x=none:=by rw[ae (Ne.symm jz)];exact nx
 have sX:=(sZ.trans sL).trans (sD.trans (ai (o:=HO.ins kk.N iT []) wK));refine#[x,iT,_,Kyq.none8,[],rfl,ab,#[aaI,λa h=>nomatch h],#[L,_,rfl,qh (ai wK _ _ (sD _ _ ab)),?_],rfl,λH' pa sx sY gk na=>#[rfl,q H' x pa ?_ ?_ ?_ gk na]]
 .show Paired _ [V.ay,V.ay,V.ay,V.ay,V.ay,V.ay,V.ay,V.ay] [none,none,none,none,none,none,none,none];exact .cons rfl (.cons rfl (.cons rfl (.cons rfl (.cons rfl (.cons rfl (.cons rfl (.cons rfl .nil)))))))
 .intro b ob e;have e1:=sL _ _ (sZ _ _ e);exact sx _ _ (sX _ _ e) (bH e1 nx)
 .exact Ye.mpr λo e=>by rw[sL _ _ (sZ _ _ e)]at nx;cases nx
 .exact Ye.mpr λo e=>by rw[sX _ _ e]at sY;cases sY
inductive HY(Tab:Hp->Prop)(vs:List V)(H:Hp)(Q:VK)(E:XK):Prop|mk(ev uv l:_)(_:vs=[ev,uv])(_:og H ev l)(_:dP H uv (c3 l))(_:l.length=8)(_:Qm.Acyclic l)(_:Tab H)(_:∀H' z,cq pT H H'->Tab H'->j1 H' z (iS l)->Q z H')
def j4(G:Gh)(p Pt:Addr)(H H':Hp):Prop:=∀b o,H b=some o->b≠Pt->b≠p->(p,b)∉G->H' b=some o
inductive mO(Tab:Hp->Prop)(vs:List V)(H:Hp)(Q:VK)(E:XK):Prop|mk(p l k G:_)(_:vs=[.ref p,.int (k:Nat)])(_:bT G H)(_:ck G H p l)(_:l.length=8)(_:Qm.Acyclic l)(_:k<8)(_:Tab H)(_:∀H' z,j4 G p pT H H'->Tab H'->bT G H'->ck G H' p l->bW a_ (fz G H') z (bM l k)->Q z H')
def wL(l:Slots){k:Nat}(hk:k<8):(iS l)[k]?=some (bM l k):=by
 unfold iS;rw[X1,Yn hk];rfl
def Sb{Tab:Hp->Prop}(hT:∀H,Tab H->∃ps,H pT=some (.bK ps))(hS:∀H H',Tab H->(∀b o,H b=some o->(∀C dx fs,o≠.ins C dx fs)->(∀xs,o≠.lst xs)->H' b=some o)->Tab H')(ok:cY.Ok)(N:dW K kk.N)
  (D:bI K kk.N "drawing_of" "Names.drawing_of" (inClass (top 71) 5) ["self","k"]) (AH:aH P w K mg base 10 "draw_names" ["entries","used"] (HY Tab)):aF P w K mg base 11 kk.N "drawing_of" ["self","k"] (mO Tab):=by
 refine D.go ["self","k"] N.cl λnd H vs Q E hr h=>?_;obtain⟨p,l,k,G,rfl,gk,⟨dx,ea,ua,dv,pa,ps,hp,hpa,hps,ie,iu,HZ,wM⟩,l8,ac,hk,tb,q⟩:=h;refine#[_,(aM (aL jN (aK K (pv 0)) b_) (bF (cj (pv 0) (vA (bh AH (aU (aK K (pv 0)) (aK K (pv 0)))) (G.map Prod.snd) gk.nd) rfl)) (ax (a0 K (aK K (pv 0)) (pv 1)))),?_];refine#[_,rfl,p,kk.N,dx,_,_,rfl,hp,N.cl,N.nD,rfl,rfl,_,rfl,bg (λh=>?_) (λh=>?_)]
 .have pG:=gk.ins hp;obtain⟨tps,hPt⟩:=hT H tb;have pP:p≠pT:=λe=>by rw[e,hPt]at hp;cases hp
  have wN:off (G.map Prod.snd) H p=some (.ins kk.N dx (nf ea ua dv pa)):=by rw[dC pG];exact hp
  have fo:=HV gk;refine#[gk.at_,_,rfl,p,kk.N,dx,_,_,rfl,wN,N.cl,N.nE,rfl,_,rfl,p,kk.N,dx,_,_,rfl,wN,N.cl,N.nU,rfl,_,_,l,rfl,ie.mono fo,iu.mono fo,l8,ac,?_,λH1 z s1 t1 d1 nn=>?_]
  .refine hS H _ tb λb o e n1 n2=>?_;rw[dC λz=>?_]
   .exact e
   .obtain⟨xs,e2⟩:=gk.at_ b z;rw[e]at e2;exact n2 _ (XW e2)
  have hp1:cV (G.map Prod.snd) H H1 p=some (.ins kk.N dx (nf ea ua dv pa)):=by rw[jS pG];exact s1 _ _ wN pP
  refine#[_,rfl,p,kk.N,dx,_,rfl,hp1,N.cl,N.nD,(by show 4<1000;decide),?_];rw[R0];have kH:∀b o,H b=some o->b≠pT->b≠p->upd (cV (G.map Prod.snd) H H1) p (.ins kk.N dx (nf ea ua z pa)) b=some o:=λb o e n1 n2=>by
   rw[ae n2];by_cases c:b∈G.map Prod.snd
   .rw[mj c];exact e
   .rw[jS c];exact s1 _ _ (by rw[dC c];exact e) n1
  have fP:∀b o,fz G H b=some o->b≠pT:=λb o e n=>by
   obtain⟨e1,⟨xs,rfl,_⟩|⟨xs,rfl⟩|⟨dx,fs,rfl⟩⟩:=dQ e<;>rw[n,hPt]at e1<;>cases e1
  have data:=jy (G:=G) (G':=G) (λb o e=>kH b o (dQ e).1 (fP b o e) (oh hp (Ne.symm ok.pn) e)) λa h=>.inl h;have k1:∀b o,H1 b=some o->b≠p->upd (cV (G.map Prod.snd) H H1) p (.ins kk.N dx (nf ea ua z pa)) b=some o:=λb o e n=>by
   rw[ae n,jS λc=>?_]
   .exact e
   .rw[nn b c]at e;cases e
  have H_:=s1 _ _ wN pP;have new:=jy (G:=[]) (G':=G) (λb o e=>k1 b o (dQ e).1 (oh H_ (Ne.symm ok.pn) e)) λa h=>.inr (nn a h);have d2:=(d1.fz).mono new;have nm:ck G (upd (cV (G.map Prod.snd) H H1) p (.ins kk.N dx (nf ea ua z pa))) p l:=#[dx,ea,ua,z,pa,ps,ab,hpa,kH _ _ hps (λe=>by rw[e,hPt]at hps;cases hps) (λe=>by rw[e,hp]at hps;cases hps),ie.mono data,iu.mono data,.inr d2,Paired.aY wM λ_ _ z=>z.mono data]
  obtain⟨da,ds,rfl,hda,ij⟩:=d2;obtain⟨y,hy,io⟩:=Paired.get ij (wL l hk);refine#[_,rfl,p,kk.N,dx,_,_,rfl,ab,N.cl,N.nD,rfl,_,rfl,da,ds,_,y,rfl,rfl,af.of (cZ _ _ hda),cB hy,q _ y (λb o e n1 n2 _=>kH b o e n1 n2) (hS H1 _ t1 λb o e n1 n2=>k1 b o e (wD H_ e n1)) (gk.to λb xs e _=>#[xs,kH b _ e (λz=>by rw[z,hPt]at e;cases e) (λz=>by rw[z,hp]at e;cases e)]) nm io]
 .have h:¬dv=.ay:=λz=>h (Yc z);obtain⟨da,ds,rfl,hda,ij⟩:=HZ.resolve_left h;obtain⟨z,hz,io⟩:=Paired.get ij (wL l hk);refine#[_,rfl,p,kk.N,dx,_,_,rfl,hp,N.cl,N.nD,rfl,_,rfl,da,ds,_,z,rfl,rfl,af.of (cZ _ _ hda),cB hz,q H z (λb o e _ _ _=>e) tb gk #[dx,ea,ua,_,pa,ps,hp,hpa,hps,ie,iu,.inr #[da,ds,rfl,hda,ij],wM] io]
inductive AI(H H':Hp)(v:V)(b:Rows):Prop|mk(a dx na pa ea:_)(_:v=.ref a)(_:H' a=some (.ins kk.P dx (pf na pa ea)))(_:H na=none)(_:H pa=none)(_:H ea=none)(_:dP H' (.ref na) (Kyq2.numbers (Kyq.planFor (Qm.aq b))))(_:k_ H' (.ref pa) b (Kyq.partsFor (Qm.aq b)))(_:dP H' (.ref ea) (cX (Kyq.planFor (Qm.aq b)) 0))
theorem jx.fz(h:jx H b v q):jx (fz G H) b v q:=let⟨a,av,pv,e,k,⟨x,ex,hx⟩,⟨y,ey,hy⟩⟩:=h;#[a,av,pv,e,mM k,#[x,ex,mM hx],#[y,ey,mM hy]]
def AI.plan(g:bT G H)(h:AI H H' v b):qd (fz G H') v b:=by
 obtain⟨a,dx,na,pa,ea,e,k,n1,n2,n3,⟨_,e1,h1⟩,⟨_,vs,e2,h2,pr⟩,⟨_,e3,h3⟩⟩:=h;cases e1;cases e2;cases e3;exact#[a,dx,na,pa,ea,e,HP k,#[na,rfl,j3 h1 (g.out n1)],#[pa,vs,rfl,j3 h2 (g.out n2),Paired.aY pr λ_ _ z=>z.fz],#[ea,rfl,j3 h3 (g.out n3)]]
inductive Ia(vs:List V)(H:Hp)(Q:VK)(E:XK):Prop|mk(v b:_)(_:vs=[v])(_:a_ H v b)(_:aZ b)(_:∀H' z,ag H H'->AI H H' z b->Q z H')
inductive wO(Tab:Hp->Prop)(vs:List V)(H:Hp)(Q:VK)(E:XK):Prop|mk(p l k G b:_)(_:vs=[.ref p,.int (k:Nat)])(_:bT G H)(_:ck G H p l)(_:l.length=8)(_:Qm.Acyclic l)(_:k<8)(_:bM l k=some b)(_:aZ b)(_:Tab H)(_:∀H' z,j4 G p pT H H'->Tab H'->bT G H'->ck G H' p l->qd (fz G H') z b->Q z H')
theorem Sd{Tab:Hp->Prop}(hS:∀H H',Tab H->(∀b o,H b=some o->(∀C dx fs,o≠.ins C dx fs)->(∀xs,o≠.lst xs)->H' b=some o)->Tab H')(N:dW K kk.N)
  (D:bI K kk.N "plan_of" "Names.plan_of" (inClass (top 71) 6) ["self","k"]) (dE:aF P w K mg base 11 kk.N "drawing_of" ["self","k"] (mO Tab)) (AJ:aH P w K mg base 10 "best_plan" ["block"] (Ia)):aF P w K mg base 12 kk.N "plan_of" ["self","k"] (wO Tab):=by
 refine D.go ["self","k"] N.cl λnd H vs Q E hr h=>?_;obtain⟨p,l,k,G,b,rfl,gk,nm,l8,ac,hk,eb,fb,tb,q⟩:=h;have Ib:=nm;obtain⟨dx,ea,ua,dv,pa,ps,hp,hpa,hps,ie,iu,HZ,wM⟩:=nm;have dk:(iS l)[k]?=some (some b):=by rw[wL l hk,eb]
 obtain⟨v,hv,iv⟩:=Paired.get wM dk;refine#[_,(aM (aL jN (a0 K (aK K (pv 0)) (pv 1)) b_) (bF (o7 (bh AJ (au (bq dE (pv 0) (au (pv 1))))) (o6 (aK K (pv 0)) (pv 1) set_list))) (ax (a0 K (aK K (pv 0)) (pv 1)))),?_];refine#[_,rfl,p,kk.N,dx,_,_,rfl,hp,N.cl,N.nP,rfl,_,rfl,pa,ps,_,v,rfl,rfl,af.of hps,cB hv,rfl,_,rfl,bg (λh=>?_) (λh=>?_)]
 .refine#[_,rfl,p,dx,_,rfl,hp,rfl,_,rfl,p,l,k,G,rfl,gk,Ib,l8,ac,hk,tb,λH1 z s1 t1 g1 n1 io=>?_];rw[eb]at io;refine#[z,b,rfl,a_.mono cZ io,fb,λH2 u s2 np=>?_];have g2:=g1.mono s2;have t2:=n1.mono s2;obtain⟨gD,wQ,dF,Se,bU,ps2,hp2,AK,wR,Sf,Sg,Sh,Ic⟩:=t2;have lp:ps2.length=8:=by rw[Ic.length];simp[iS]
  refine#[_,rfl,p,kk.N,gD,_,_,rfl,hp2,N.cl,N.nP,rfl,_,rfl,bU,ps2,_,k,rfl,rfl,wR,?_,?_]
  .unfold fW;rw[if_pos (by lia),if_pos (by lia),Yd]
  have pp:p≠bU:=λe=>by rw[e,wR]at hp2;cases hp2
  have data:=jy (G:=G) (G':=G) (H:=H2) (H':=upd H2 bU (.lst (ps2.set k u))) (λb o e=>by
   rw[ae λz=>?_]
   .exact(dQ e).1
   .rw[z]at e;exact HR e wR (iA AK)) λa h=>.inl h
  have ip:=(np.plan g1).mono data;have il:Paired (sV (fz G (upd H2 bU (.lst (ps2.set k u))))) (ps2.set k u) (iS l):=by
   have e:(iS l).set k (some b)=iS l:=by
    apply Z1;intro i;rw[Zi];by_cases c:k=i
    .rw[if_pos c,<-c,dk,if_pos (XZ.mp dk).1]
    .rw[if_neg c]
   rw[<-e];exact Paired.wI (.inr #[b,rfl,ip]) k (Paired.aY Ic λ_ _ z=>z.mono data)
  obtain⟨w,hw,_⟩:=Paired.get il dk;have eu:(ps2.set k u)[k]?=some u:=by rw[Zi,if_pos rfl,if_pos (by lia)]
  refine#[_,rfl,p,kk.N,gD,_,_,rfl,(by rw[ae pp];exact hp2),N.cl,N.nP,rfl,_,rfl,bU,_,_,u,rfl,rfl,af.of ab,cB eu,q _ u (λb o e n1 n2 n3=>?_) (hS H2 _ (hS H1 _ t1 λb o e _ _=>s2 _ _ e) λb o e _ n=>?_) (g2.to λb xs e _=>?_) #[gD,wQ,dF,Se,bU,_,(by rw[ae pp];exact hp2),AK,ab,Sf.mono data,Sg.mono data,Sh.imp id λz=>z.mono data,il] ip]
  .have nb:b≠bU:=λz=>n3 (by rw[z];exact AK);rw[ae nb];exact s2 _ _ (s1 b o e n1 n2 n3)
  .rw[ae λz=>by rw[z,wR]at e;exact n _ (XW e).symm];exact e
  .by_cases c:b=bU
   .exact#[_,by rw[c];exact ab]
   .exact#[xs,by rw[ae c];exact e]
 .have h:¬v=.ay:=λz=>h (Yc z);obtain⟨b',e,ip⟩:=iv.resolve_left h;cases e;exact#[_,rfl,p,kk.N,dx,_,_,rfl,hp,N.cl,N.nP,rfl,_,rfl,pa,ps,_,v,rfl,rfl,af.of hps,cB hv,q H v (λb o e _ _ _=>e) tb gk Ib ip]
end QS
namespace L2
open PySem PySem.Spec PyProof.Rows
inductive wU(K:ZX)(mg:ZQ)(base:Heap)(x:Str)(st:Stmt)(ps:List Str)(Pt:Addr):Prop|mk(f fd:_)(_:d_ K x x st f fd)(_:mg x=some (.ref f))(_:Binds K fd ps [])(_:∃c,fd.code=.ref c/\PySem.W.CodeHd base c Pt)
def ql(mg:ZQ)(base:Heap):Prop:=aX λbm o=>mg "__builtins__"=some (.ref bm)/\bm≠builtinsNs/\bm≠mainGlobals/\base.get? bm=some o/\o.cls=.type "module"/\o.dict=some builtinsNs/\o.data=.plain
section
variable{P:Program}{w:World}{K:ZX}{mg:ZQ}{base:Heap}{x:Str}{st:Stmt}{N ps:List Str}{k:Nat}{sp:Sp}
def wU.rU(D:wU K mg base x st ps pT)(S:jc N ps (cR st))(len:∀vs H Q E,sp vs H Q E->vs.length=ps.length)
  (hb:∀(f:Addr) (cdv:Value) (A:Around) (outer:List Env) (s:Shared) (H:Hp) (vs:List V) (Q:VK) (E:XK),(∃c,cdv=.ref c/\PySem.W.CodeHd base c pT)->bR k (A.deeper (envOfC x (cR st) s.heap.objs.size f cdv))->sp vs H Q E->
   ∃t,dJ (jd fY P w K mg base N x (cR st) f cdv A outer s H E).jJ (iM st) t/\t {nx:=λ_ H'=>Q .ay H',rt:=Q} (start N vs) H):aH P w K mg base (k+1) x ps sp:=by
 obtain⟨f,fd,F,g,b,cc⟩:=D;refine#[f,fd,g,F.kp,b,?_];obtain⟨oc,od,kV,doc,pm,an,cdv,ct,osl,rfl,lk,hcd⟩:=F.ex;refine Ee lk hcd S len λA outer s H vs Q E hr hsp=>?_;obtain⟨t,h,q⟩:=hb f cdv A outer s H vs Q E cc hr hsp;exact#[t,h.jJ,q]
end
noncomputable def Sj(s:Stmt):Scope×Pos:=match s with
 |.For _ (.Call _ _ [⟨_,.Lambda _ _ sc p,_⟩] _) _ _ _=>(sc,p)
 |_=>({kind:=.function,names:=[],isGenerator:=false,isCoroutine:=false},#[0,0,0,0])
end L2
namespace QS
open Qm
open PySem PySem.Spec PyProof.Rows L2
open Kyq1 (Exp Patch)
open Kyq (Slots)
open Qm (Rows aZ)
variable{H H':Hp}{W dx ka n n' p ua:Addr}{ds ks ks' us:List V}{dr:List (Option Rows)}{v z:V}{b:Rows}{l:Slots}{i k m:Nat}{P:Program}{w:World}{K:ZX}{mg:ZQ}{base:Heap}{G G':Gh}{q:Shop}
theorem Sk(hW:H W=some (.lst ds))(pr:Paired (bW a_ H) ds dr)(l8:dr.length=8)(fd:∀b,dr.getD 0 none=some b->aZ b)(h:a_ H z b):a_ (del H W) z b:=by
 obtain⟨d0,hd0⟩:∃d0,dr[0]?=some d0:=#[_,XT (by lia)]
 obtain⟨v0,hv0,i0⟩:=Paired.get pr hd0;have key:v0=.ay\/lT λq us r0 ys=>v0=.ref q/\H q=some (.lst us)/\us[0]?=some (.ref r0)/\H r0=some (.lst ys):=by
  cases d0 with|none=>exact .inl i0|some bb=>
   obtain⟨q,us,e,hq,rr⟩:=i0;have fb:aZ bb:=fd bb (by rw[XU,hd0];rfl);have ne:0<bb.length:=fb.good.h1;obtain⟨row,hrow⟩:∃row,bb[0]?=some row:=#[_,XT ne]
   obtain⟨u0,hu0,r0,ys,e0,hr0,_⟩:=Paired.get rr hrow;exact .inr #[q,us,r0,ys,e,hq,by rw[hu0,e0],hr0]
 obtain⟨a,vs,rfl,ha,rows⟩:=h;have Sl:∀v r,eC H v r->eC (del H W) v r:=λv r h=>by
  obtain⟨c,us,rfl,hc,ps⟩:=h;refine#[c,us,rfl,?_,Paired.aY ps λx y q=>?_]
  .rw[cE]
   .exact hc
   .intro e;rw[e,hW]at hc;cases hc;obtain⟨pt,_,t,e1,ht⟩:=Paired.getL ps hv0;rcases key with k|⟨q,us',r0,ys,e2,hq,_⟩
    .rw[k]at e1;cases e1
    .rw[e1]at e2;cases e2;rw[ht]at hq;cases hq
  .obtain⟨t,e,ht⟩:=q;exact#[t,e,by rw[cE (λe2=>by rw[e2,hW]at ht;cases ht)];exact ht]
 refine#[a,vs,rfl,?_,Paired.aY rows λx y q=>Sl x y q];rw[cE]
 .exact ha
 .intro e;rw[e,hW]at ha;cases ha;obtain⟨row,_,c,us,e1,hc,ps⟩:=Paired.getL rows hv0;rcases key with k|⟨q,us',r0,ys,e2,hq,hu,hr⟩
  .rw[k]at e1;cases e1
  .rw[e1]at e2;cases e2;rw[hc]at hq;cases hq;obtain⟨pt,_,t,e3,ht⟩:=Paired.getL ps hu;cases e3;rw[ht]at hr;cases hr
def Sm{o:Option Rows}(hW:H W=some (.lst ds))(pr:Paired (bW a_ H) ds dr)(l8:dr.length=8)(fd:∀b,dr.getD 0 none=some b->aZ b)(h:bW a_ H z o):bW a_ (del H W) z o:=by
 cases o with|none=>exact h|some b=>exact Sk hW pr l8 fd h
def AL(h:og H v l)(l8:l.length=8):cb l:=by
 obtain⟨a,vs,_,_,pr⟩:=h;refine#[l8,λk e hk=>?_];have hk:l[k]?=some (some e):=by
  unfold Kyq.at_ at hk;rw[XU]at hk;cases q:l[k]? with|none=>rw[q]at hk;cases hk|some o=>rw[q]at hk;exact congrArg some hk
 obtain⟨_,_,ok,_⟩:=Paired.get pr hk;exact ok
def wV(O:cb l):Qm.Told l (l.map toldOf):=⟨λi j=>by
 have e:(l.map toldOf).getD i 0=toldOf (Kyq.at_ l i):=by
  unfold Kyq.at_;rw[XU,XU,X1];cases l[i]?<;>rfl
 rw[e];cases q:Kyq.at_ l i with
 |none=>
  rw[Gp q];simp[toldOf]
 |some x=>
  rw[vO O q];exact Qe⟩
def Sn(O:cb l)(hi:i<8):oe ((c3 l).getD i 0)=Qm.cnt l i:=by
 unfold oe c3 Qm.cnt;rw[XU,X1,Yn hi];show(f9 (fK (l.map toldOf) i)).length=_;rw[Gj (wV O)]
abbrev s_:Stmt:=top 70
def Ie:jc ["entries","used","drawings","k"] ["entries","used"] (cR s_):=#[rfl,rfl,rfl,by decide+kernel,rfl,by decide+kernel,by decide+kernel]
abbrev Ig:Scope×Pos:=Sj ((iM s_).getD 1 (.Pass #[0,0,0,0]))
def So:pK ["entries","used","drawings","k"] (cR s_) Ig.1 "name":=#[rfl,rfl,rfl,rfl,by decide+kernel,by decide+kernel,by decide+kernel,by decide+kernel,by decide+kernel]
abbrev bJ:Hp->Prop:=TabOf pT Ig.2 ("draw_names"++".<locals>."++"<lambda>")
theorem _root_.L2.TabOf.lst{pos:Pos}{qual:Str}{xs ys:List V}(t:TabOf pT pos qual H)(h:H W=some (.lst xs)):TabOf pT pos qual (upd H W (.lst ys)):=by
 rcases t with t|⟨c,t,u⟩
 .exact .inl (by rw[ae (λz=>by rw[z,h]at t;cases t)];exact t)
 .exact .inr #[c,by rw[ae (λz=>by rw[z,h]at t;cases t)];exact t,by rw[ae (λz=>by rw[z,h]at u;cases u)];exact u]
def qm:∀H H',bJ H->(∀b o,H b=some o->(∀C dx fs,o≠.ins C dx fs)->(∀xs,o≠.lst xs)->H' b=some o)->bJ H':=λH H' t k=>by
 rcases t with t|⟨c,t,u⟩
 .exact .inl (k _ _ t (λ_ _ _ z=>by cases z) λ_ z=>by cases z)
 .exact .inr #[c,k _ _ t (λ_ _ _ z=>by cases z) (λ_ z=>by cases z),k _ _ u (λ_ _ _ z=>by cases z) λ_ z=>by cases z]
theorem Sq(T:j2 mg)(BM:ql mg base)(D:wU K mg base "draw_names" s_ ["entries","used"] pT)(qo:aH P w K mg base 1 "count_bits" ["bits"] Ay)(AM:aH P w K mg base 5 "block_of" ["tokens","drawings"] HJ):
  aH P w K mg base 10 "draw_names" ["entries","used"] (HY (bJ)):=by
 have nd:=Ie.nd;refine D.rU Ie (λvs H Q E h=>?_) (λf cdv A outer s H vs Q E hc hr h=>?_)
 .obtain⟨ev,uv,l,rfl,_⟩:=h;rfl
 obtain⟨ev,uv,l,rfl,ie,iu,l8,ac,tb,q⟩:=h;refine#[_,(aC (aR 2 (aO jg (aV (au b_)) (aE T.jw))) (aC (dq PassesOwn.never rfl (gq (OZ (Pt:=pT) rfl rfl hr rfl T.Ax So #[hc,BM] (au (uY OW rfl T.eX (show bootBuiltins "range"=some (.type "range") by decide+kernel) (au (aE T.jw)))) (λs' H' C' f' cd'=>bh qo (au (a0 K (pv 2) (pv 0))) (hr:=hr.in1.in1.deeper _)) (λ_ _ _ _ _=>rfl))) (bQ 3) (bF (gS (aL yi (a0 K (pv 0) (pv 3)) b_) (bF (o7 (bh AM (aU (bE K (a0 K (pv 0) (pv 3)) aw) (pv 2))) (o6 (pv 2) (pv 3) set_list))) jK))) (ax (pv 2)))),?_];have O:=AL ie l8;obtain⟨Xm,hPt⟩:=tb.bK;obtain⟨ua,rfl,dA⟩:=iu;obtain⟨ea,es,rfl,eK,pre⟩:=ie;have nP:∀b o,H b=some o->(∀ps,o≠.bK ps)->b≠pT:=λb o e n z=>by
  rw[z,hPt]at e;exact n _ (XW e).symm
 refine#[bu,λZ hZ=>#[Z,8,[.ay],rfl,rfl,ab,by decide,by decide,(by show 1*8<=sizeLine;decide),λW hW=>?_]];have sZ:ag H (upd H Z (.lst [.ay])):=ai hZ;have sW:=ai (o:=HO.lst (List.replicate (Int.toNat 8) [V.ay]).flatten) hW;have nW:H W=none:=sZ.free hW;refine#[8,rfl,λr hr0=>#[r,8,Qm.cnt l,rfl,ab,by decide,tb.mono ((sZ.trans sW).trans (ai hr0)),λi H2 hi sm=>?_,λorder Dv H3 o1 o2 sm t3 hD=>?_]]
 .have s2:=sm _ _ (((sZ.trans sW).trans (ai hr0)) _ _ dA) (nP _ _ dA λ_ z=>by cases z);refine#[_,rfl,_,rfl,ua,_,_,_,rfl,rfl,af.of s2,cB (map_getD (by rw[wJ];exact hi)),_,_,rfl,rfl,trivial,λH4 u s4 e4=>#[?_,s4]];have e4:u=.int (oe ((c3 l).getD i 0):Nat):=e4;rw[e4,Sn O hi]
 have wW:∀b o,H b=some o->b≠pT->upd H3 Dv (.lst (order.map λi=>V.int (i:Nat))) b=some o:=λb o e n=>ai hD _ _ (sm _ _ (((sZ.trans sW).trans (ai hr0)) _ _ e) n);have Sr:upd H3 Dv (.lst (order.map λi=>V.int (i:Nat))) W=some (.lst (List.replicate (Int.toNat 8) [V.ay]).flatten):=ai hD _ _ (sm _ _ (ai hr0 _ _ ab) λz=>by rw[<-z,nW]at hPt;cases hPt);have DW:Dv≠W:=λz=>by
  have q:=sm _ _ (ai hr0 _ _ ab) λz=>by rw[<-z,nW]at hPt;cases hPt
  rw[<-z,hD]at q;cases q
 refine#[Dv,rfl,#[_,af.of ab],kF (K:=K) (a:=Dv) (xs:=order.map λi=>V.int (i:Nat)) (λi σ H'=>c8 λv3 ds dr=>σ=[some (.ref ea),some (.ref ua),some (.ref W),v3]/\(∀b o,H b=some o->b≠pT->H' b=some o)/\bJ H'/\H' Dv=some (.lst (order.map λi=>V.int (i:Nat)))/\H' W=some (.lst ds)/\Paired (bW a_ (del H' W)) ds dr/\dr.length=8/\sq l (order.take i) (λj=>dr.getD j none)) ?_ ?_ ?_ ?_]
 .refine#[none,_,[none,none,none,none,none,none,none,none],rfl,wW,t3.mono (ai hD),ab,Sr,?_,rfl,?_]
  .show Paired _ [V.ay,V.ay,V.ay,V.ay,V.ay,V.ay,V.ay,V.ay] [none,none,none,none,none,none,none,none];exact .cons rfl (.cons rfl (.cons rfl (.cons rfl (.cons rfl (.cons rfl (.cons rfl (.cons rfl .nil)))))))
  .intro j hj;rw[aak,if_neg (by simp)];show([none,none,none,none,none,none,none,none]:List (Option Rows)).getD j none=none;rcases j with _|_|_|_|_|_|_|_|j<;>first|rfl|lia
 .rintro i σ H' _ ⟨_,_,_,_,_,_,tj,_⟩;exact af.of tj
 .rintro i x σ H' hx ⟨v3,ds,dr,rfl,s1,t1,tj,tm,ij,d8,so⟩;rw[X1]at hx;obtain⟨k,hk,rfl⟩:∃k,order[i]?=some k/\V.int (k:Nat)=x:=by
   cases e:order[i]? with|none=>rw[e]at hx;cases hx|some k=>rw[e]at hx;exact#[k,rfl,XW hx]
  have k8:k<8:=Yb.mp (o1.mem_iff.mp (X_ hk));have split:order=order.take i++k::order.drop (i+1):=by
   have hlt:=(XZ.mp hk).1;have e2:order.drop i=k::order.drop (i+1):=by
    rw[YU hlt]
    congr 1
    exact(XZ.mp hk).2
   rw[<-e2,Zc]
  obtain⟨o,ho⟩:∃o,l[k]?=some o:=#[_,XT (by lia)]
  have hat:Kyq.at_ l k=o:=by
   unfold Kyq.at_;rw[XU,ho];rfl
  obtain⟨u,hu,iu⟩:=Paired.get pre ho;have Ih:=s1 _ _ eK (nP _ _ eK λ_ z=>by cases z);have take1:order.take (i+1)=order.take i++[k]:=take_snoc hk;have dd:ag (fz [] H) H':=λb o e=>by
   obtain⟨e1,e2⟩:=dQ e;refine s1 b o e1 (nP b o e1 ?_);rcases e2 with⟨xs,rfl,_⟩|⟨xs,rfl⟩|⟨dx,fs,rfl⟩<;>intro _ z<;>cases z
  refine#[_,rfl,_,rfl,ea,es,_,u,rfl,rfl,af.of Ih,cB hu,rfl,_,rfl,bg (λh=>?_) (λh=>?_)]
  .have h:¬u=.ay:=by simpa using h
   cases o with|none=>exact absurd iu h|some e=>
    have AN:=(fQ.fz iu).mono dd;obtain⟨ok,Ii,a,wv,tv,rfl,ha,_,it⟩:=AN;have fd:∀j b,dr.getD j none=some b->aZ b:=λj b hb=>by
     by_cases hj:j<8
     .have e3:dr.getD j none=_:=so j hj;rw[hb]at e3;by_cases m:j∈order.take i
      .rw[if_pos m]at e3;exact jW O e3.symm
      .rw[if_neg m]at e3;cases e3
     .rw[XU,Yu (by lia)]at hb;cases hb
    have Ij:Paired (bW a_ H') ds dr:=Paired.aY ij λ_ _ z=>sR bc z;refine#[_,rfl,_,rfl,ea,es,_,_,rfl,rfl,af.of Ih,cB hu,a,_,_,_,rfl,rfl,aI.of ha,rfl,_,rfl,_,_,e,dr,rfl,it,ok,Ii,#[W,ds,rfl,tm,Ij],d8,fd,λH4 z s4 i4=>?_];have hW4:=s4 _ _ tm;have Ss:Paired (bW a_ H4) ds dr:=Paired.aY Ij λ_ _ z=>sR s4 z;have Ik:=Sm hW4 Ss d8 (fd 0) i4;have ln:=ij.length;refine#[_,rfl,_,rfl,W,ds,_,k,rfl,rfl,hW4,?_,some (.int (k:Nat)),ds.set k z,dr.set k (bM l k),rfl,λb o e n=>?_,?_,?_,ab,?_,by simp[d8],?_]
    .unfold fW;rw[if_pos (by lia),if_pos (by lia),Yd]
    .rw[ae (λz=>by rw[z,nW]at e;cases e)];exact s4 _ _ (s1 _ _ e n)
    .exact(t1.mono s4).lst hW4
    .rw[ae DW];exact s4 _ _ tj
    .rw[cT];refine Paired.wI ?_ k (Paired.aY ij λ_ _ z=>sR (λb o e=>?_) z)
     .rw[Qa O ac (by rw[<-split];exact o1) (by rw[<-split];exact o2) so hat]at Ik;exact Ik
     .obtain⟨e1,e2⟩:=iP e;rw[cE e1];exact s4 _ _ e2
    .rw[take1];refine Gq so ?_ λj hj=>?_
     .show(dr.set k _).getD k none=_;rw[XU,Zm (by lia)];rfl
     .show(dr.set k _).getD j none=_;rw[XU,Zf (Ne.symm hj),<-XU]
  .have h:u=.ay:=by simpa using h
   have hn:o=none:=by
    cases o with|none=>rfl|some e=>
     obtain⟨_,_,_,_,_,e1,_⟩:=iu;rw[h]at e1;cases e1
   refine#[some (.int (k:Nat)),ds,dr,rfl,s1,t1,tj,tm,ij,d8,?_];rw[take1];refine Gq so ?_ λj _=>rfl;have nk:k∉order.take i:=λm=>by
    have Il:order.Nodup:=o1.nodup_iff.mpr List.nodup_range;rw[split]at Il;exact(List.nodup_append.mp Il).2.2 k m k (by simp) rfl
   have e3:dr.getD k none=_:=so k k8;show dr.getD k none=_;rw[e3,if_neg nk,P_ (by rw[hat,hn])]
 .rintro σ H' ⟨v3,ds,dr,rfl,s1,t1,tj,tm,ij,d8,so⟩;refine#[_,rfl,q H' _ s1 t1 #[W,ds,rfl,tm,?_]];have e:dr=iS l:=by
   apply YQ
   .simp[iS,d8]
   .intro j h1 h2;have j8:j<8:=by lia
    have e1:=Qb o1 (by rw[Yv (by simp)]at so;exact so) j8;rw[XU,XT h1]at e1;have e2:=wL l j8;rw[XT h2]at e2;exact(show dr[j]=_ from e1).trans (XW e2).symm
  rw[<-e];exact Paired.aY ij λ_ _ z=>sR bc z
open Kyq (Slots Shop)
theorem Im:∀ {l m:List Nat},(l.map λn=>V.int (n:Nat))=(m.map λn=>V.int (n:Nat))->l=m
 |[],[],_=>rfl
 |[],_::_,h=>by cases h
 |_::_,[],h=>by cases h
 |a::l,b::m,h=>by
  rw[X7,X7]at h;injection h with h1 h2;injection h1 with h3;rw[Im h2,show a=b by lia]
def dP.uniq{l m:List Nat}(a:dP H v l)(b:dP H v m):l=m:=by
 obtain⟨p,e,h⟩:=a;obtain⟨p',e',h'⟩:=b;rw[e]at e';cases e';rw[h]at h';injection h' with h';injection h' with h';exact Im h'
theorem fQ.uniq{o o':Option Exp}(a:fQ H v o)(b:fQ H v o'):o=o':=by
 cases o with
 |none=>
  cases o' with|none=>rfl|some e'=>
   obtain⟨_,_,_,_,_,e,_⟩:=b;rw[show v=.ay from a]at e;cases e
 |some e=>
  cases o' with
  |none=>
   obtain⟨_,_,_,_,_,e1,_⟩:=a;rw[show v=.ay from b]at e1;cases e1
  |some e'=>
   obtain⟨ok,_,p,wv,tv,e1,h1,n1,_⟩:=a;obtain⟨ok',_,p',oi,Xn,e1',h1',Su,_⟩:=b;rw[e1]at e1';cases e1';rw[h1]at h1';injection h1' with h2;injection h2 with h2;injection h2 with h3 _;subst h3;have ew:=n1.uniq Su;have q1:=rZ.mpr #[ok,rfl];have q2:=rZ.mpr #[ok',rfl];rw[ew]at q1;rw[q1]at q2;exact q2
theorem Paired.uniq{α β:Type}{F:α->β->Prop}(u:∀a b b',F a b->F a b'->b=b'):∀ {l:List α} {m m':List β},Paired F l m->Paired F l m'->m=m'
 |_,_,_,.nil,.nil=>rfl
 |_,_,_,.cons r t,.cons r' t'=>by rw[u _ _ _ r r',Paired.uniq u t t']
theorem ck.uniq{l':Slots}(a:ck G H p l)(b:ck G H p l'):l=l':=by
 obtain⟨dx,ea,ua,dv,pa,ps,h,_,_,⟨_,vs,e,q,r⟩,_⟩:=a;obtain⟨Io,tq,dB,dv',qk,ps',h',_,_,⟨_,vs',e',q',r'⟩,_⟩:=b;cases e;cases e';rw[h]at h';injection h' with h2;injection h2 with _ _ h3;have h4:(nf ea ua dv pa).lookup ("entries":Str)=(nf tq dB dv' qk).lookup ("entries":Str):=by rw[h3]
 rw[HS,HS]at h4;injection h4 with h5;injection h5 with h6;subst h6;rw[q]at q';cases q';exact Paired.uniq (F:=fQ (fz G H)) (λ_ _ _ x y=>fQ.uniq x y) r r'
section
variable{b:Addr}{o:HO}
def AO(g:bT G H)(e:fz G H b=some o):b∉G.map Prod.snd:=λz=>by
 obtain⟨xs,h⟩:=g.at_ b z;exact HR e h z
def Sv{ps:Array Value}(h:H pT=some (.bK ps))(e:fz G H b=some o):b≠pT:=λz=>by
 obtain⟨e1,⟨xs,rfl,_⟩|⟨xs,rfl⟩|⟨dx,fs,rfl⟩⟩:=dQ e<;>rw[z,h]at e1<;>cases e1
theorem ck.ins(h:ck G H n l):aX λdx fs=>H n=some (.ins kk.N dx fs):=by obtain⟨dx,_,_,_,_,_,e⟩:=h;exact#[dx,_,e]
def j4.data(ok:cY.Ok)(g:bT G H)(hl:ck G H n l)(hP:∃ps,H pT=some (.bK ps))(k:j4 G n pT H H'):ag (fz G H) (fz G H'):=by
 obtain⟨dx,fs,hn⟩:=hl.ins;obtain⟨ps,hP⟩:=hP;exact jy (λb o e=>k b o (dQ e).1 (Sv hP e) (oh hn (Ne.symm ok.pn) e) λz=>AO g e (iA z)) λa h=>.inl h
structure Nm(G:Gh)(H:Hp)(v:V)(l:Slots):Prop where
 at_:∃n,v=.ref n/\ck G H n l
 len:l.length=8
 ac:Qm.Acyclic l
theorem Nm.mono(s:ag H H')(h:Nm G H v l):Nm G H' v l:=by
 obtain⟨⟨n,e,q⟩,a,b⟩:=h;exact#[#[n,e,q.mono s],a,b]
def Nm.drawn(ok:cY.Ok)(g:bT G H)(hl:ck G H n l)(k:j4 G n pT H H')(hP:∃ps,H pT=some (.bK ps))(hl':ck G H' n l){l2:Slots}(h:Nm G H v l2):Nm G H' v l2:=by
 obtain⟨⟨n2,e,q⟩,a,b⟩:=h;have dt:=j4.data ok g hl hP k;obtain⟨ps,hP⟩:=hP;obtain⟨dx,fs,hi⟩:=hl.ins;by_cases z:n2=n
 .subst z;rw[q.uniq hl];exact#[#[n2,e,hl'],by rw[<-q.uniq hl];exact a,by rw[<-q.uniq hl];exact b]
 .obtain⟨gD,tE,hi2⟩:=q.ins;refine#[#[n2,e,q.keep (λo ho=>k _ _ ho (λz2=>by rw[z2,hP]at hi2;cases hi2) z λz2=>g.ins hi2 (iA z2)) (λa o ha ho=>?_) (λ_ h=>h) dt],a,b];obtain⟨xs,hx⟩:=g.at_ a (iA ha);exact k _ _ ho (λz2=>by rw[z2,hP]at hx;cases hx) (λz2=>by rw[z2,hi]at hx;cases hx) λz2=>z (g.one ha z2)
end
def oj:List Str:=["names","kept","undone"]
structure gE(fs:List (Str×V))(n ka ua:Addr):Prop where
 names:fs.lookup ("names":Str)=some (.ref n)
 kept:fs.lookup ("kept":Str)=some (.ref ka)
 undone:fs.lookup ("undone":Str)=some (.ref ua)
 only:∀x v,fs.lookup x=some v->x∈oj
 cM:fs.length<=100
def gE.no{fs:List (Str×V)}(h:gE fs n ka ua){x:Str}(hx:x∉oj):fs.lookup x=none:=by
 cases q:fs.lookup x with|none=>rfl|some v=>exact absurd (h.only x v q) hx
def gE.dg{fs:List (Str×V)}(h:gE fs n ka ua){x:Str}(hx:x∉oj:=by decide):fs.lookup x=none:=h.no hx
theorem AQ(f:Str)(v:V):∀fs:List (Str×V),(fs.lookup f).isSome=true->(aQ f v fs).length=fs.length
 |[],h=>by cases h
 |(g,x)::r,h=>by
  unfold aQ;by_cases e:g=f
  .rw[if_pos e];rfl
  .rw[if_neg e,X2,X2];rw[YK]at h;have e2:(f==g)=false:=by simpa using λz=>e z.symm
   rw[e2]at h;rw[AQ f v r h]
theorem lg(f:Str)(v:V):∀fs:List (Str×V),(aQ f v fs).length<=fs.length+1
 |[]=>by simp[aQ]
 |(g,x)::r=>by
  unfold aQ;split
  .simp
  .have:=lg f v r;simp only[X2]
   lia
def gE.tF{fs:List (Str×V)}(h:gE fs n ka ua)(n':Addr):gE (aQ "names" (.ref n') fs) n' ka ua:=by
 have e:∀g:Str,(aQ "names" (.ref n') fs).lookup g=if g="names" then some (.ref n')else fs.lookup g:=λg=>uT _ _ _ _
 refine#[?_,?_,?_,λx v q=>?_,?_]
 .rw[e,if_pos rfl]
 .rw[e,if_neg (by decide)];exact h.kept
 .rw[e,if_neg (by decide)];exact h.undone
 .rw[e]at q;by_cases z:x="names"
  .rw[z];decide
  .rw[if_neg z]at q;exact h.only x v q
 .rw[AQ _ _ _ (by rw[h.names];rfl)];exact h.cM
def gE.Sw{fs:List (Str×V)}(h:gE fs n ka ua)(a':Addr):gE (aQ "undone" (.ref a') fs) n ka a':=by
 have e:∀g:Str,(aQ "undone" (.ref a') fs).lookup g=if g="undone" then some (.ref a')else fs.lookup g:=λg=>uT _ _ _ _
 refine#[?_,?_,?_,λx v q=>?_,?_]
 .rw[e,if_neg (by decide)];exact h.names
 .rw[e,if_neg (by decide)];exact h.kept
 .rw[e,if_pos rfl]
 .rw[e]at q;by_cases z:x="undone"
  .rw[z];decide
  .rw[if_neg z]at q;exact h.only x v q
 .rw[AQ _ _ _ (by rw[h.undone];rfl)];exact h.cM
structure br(G:Gh)(H:Hp)(p:Addr)(q:Shop):Prop where
 ok:bT G H
 ex:Dj λdx fs n ka ua ks us=>H p=some (.ins kk.D dx fs)/\gE fs n ka ua/\(p,ka)∈G/\(p,ua)∈G/\Nm G H (.ref n) q.slots/\H ka=some (.lst ks)/\Paired (Nm G H) ks q.past.reverse/\H ua=some (.lst us)/\Paired (Nm G H) us q.ahead.reverse/\ka≠ua
 cM:q.past.length+q.ahead.length<=32
structure Fz(G G':Gh)(H H':Hp):Prop where
 dat:ag (fz G H) (fz G' H')
 ins:∀b c dx fs,H b=some (.ins c dx fs)->c≠kk.D->c≠kk.N->H' b=some (.ins c dx fs)
 cJ:∀b o u,H b=some (.cJ o u)->H' b=some (.cJ o u)
section
variable{G1 G2:Gh}{H1 H2:Hp}
def Fz.refl(H:Hp):Fz G G H H:=#[λ_ _ h=>h,λ_ _ _ _ h _ _=>h,λ_ _ _ h=>h]
theorem Fz.trans(a:Fz G G1 H H1)(b:Fz G1 G2 H1 H2):Fz G G2 H H2:=#[a.dat.trans b.dat,λc d x y h h1 h2=>b.ins c d x y (a.ins c d x y h h1 h2) h1 h2,λc o u h=>b.cJ c o u (a.cJ c o u h)]
def Fz.same(s:ag H H'):Fz G G H H':=#[iR s,λ_ _ _ _ h _ _=>s _ _ h,λ_ _ _ h=>s _ _ h]
def Fz.cons{x:Addr×Addr}(s:ag H H')(n:H x.2=none):Fz G (x::G) H H':=#[HQ s n,λ_ _ _ _ h _ _=>s _ _ h,λ_ _ _ h=>s _ _ h]
theorem br.mono(s:ag H H')(h:br G H p q):br G H' p q:=by
 obtain⟨g,⟨dx,fs,n,ka,ua,ks,us,h1,h2,o1,o2,h3,h4,h5,h6,h7,h8⟩,fw⟩:=h;exact#[g.mono s,#[dx,fs,n,ka,ua,ks,us,s _ _ h1,h2,o1,o2,h3.mono s,s _ _ h4,Paired.aY h5 λ_ _ z=>z.mono s,s _ _ h6,Paired.aY h7 λ_ _ z=>z.mono s,h8],fw]
def Nm.grow{x:Addr×Addr}(s:ag H H')(n:H x.2=none)(h:Nm G H v l):Nm (x::G) H' v l:=by
 obtain⟨⟨n,e,q⟩,a,b⟩:=h;exact#[#[n,e,q.keep (λ_ e=>s _ _ e) (λ_ _ _ e=>s _ _ e) (λ_ h=>X6 _ h) (HQ s ‹_›)],a,b]
theorem br.grow{x:Addr×Addr}(s:ag H H')(nx:H x.2=none)(g':bT (x::G) H')(h:br G H p q):br (x::G) H' p q:=by
 obtain⟨g,⟨dx,fs,n,ka,ua,ks,us,h1,h2,o1,o2,h3,h4,h5,h6,h7,h8⟩,fw⟩:=h;exact#[g',#[dx,fs,n,ka,ua,ks,us,s _ _ h1,h2,X6 _ o1,X6 _ o2,h3.grow s nx,s _ _ h4,Paired.aY h5 λ_ _ z=>z.grow s nx,s _ _ h6,Paired.aY h7 λ_ _ z=>z.grow s nx,h8],fw]
theorem br.drawn(ok:cY.Ok)(hl:ck G H n l)(k:j4 G n pT H H')(hP:∃ps,H pT=some (.bK ps))(g':bT G H')(hl':ck G H' n l)(h:br G H p q):br G H' p q:=by
 obtain⟨g,⟨dx,fs,n2,ka,ua,ks,us,h1,h2,o1,o2,h3,h4,h5,h6,h7,h8⟩,fw⟩:=h;have nd:=λ{v:V} {l2:Slots} (x:Nm G H v l2)=>Nm.drawn ok g hl k hP hl' x;obtain⟨gD,tE,hi⟩:=hl.ins;obtain⟨ps,hP⟩:=hP;have np:p≠n:=λz=>by
  rw[z,hi]at h1;injection h1 with h1;injection h1 with h1 _ _;exact ok.dn h1.symm
 have kl:∀b xs,H b=some (.lst xs)->(p,b)∈G->H' b=some (.lst xs):=λb xs e m=>k b _ e (λz=>by rw[z,hP]at e;cases e) (λz=>by rw[z,hi]at e;cases e) λz=>np (g.one m z);exact#[g',#[dx,fs,n2,ka,ua,ks,us,k _ _ h1 (λz=>by rw[z,hP]at h1;cases h1) np λz=>g.ins h1 (iA z),h2,o1,o2,nd h3,kl _ _ h4 o1,Paired.aY h5 λ_ _ z=>nd z,kl _ _ h6 o2,Paired.aY h7 λ_ _ z=>nd z,h8],fw]
def j5(ok:cY.Ok)(g:bT G H)(hl:ck G H n l)(hP:∃ps,H pT=some (.bK ps))(k:j4 G n pT H H'):Fz G G H H':=by
 refine#[j4.data ok g hl hP k,λb c dx fs e h1 h2=>?_,λb o u e=>?_]<;>obtain⟨ps,hP⟩:=hP<;>obtain⟨gD,tE,hi⟩:=hl.ins
 .exact k b _ e (λz=>by rw[z,hP]at e;cases e) (λz=>by rw[z,hi]at e;cases e;exact h2 rfl) λz=>g.ins e (iA z)
 .exact k b _ e (λz=>by rw[z,hP]at e;cases e) (λz=>by rw[z,hi]at e;cases e) λz=>by
   obtain⟨xs,h⟩:=g.at_ b (iA z);rw[e]at h;cases h
def br.re{fs:List (Str×V)}{q':Shop}{fs':List (Str×V)}{tG dB:Addr}{us':List V}(ok:cY.Ok)(g:bT G H)(hp:H p=some (.ins kk.D dx fs))(ik:(p,ka)∈G)(iu:(p,ua)∈G)
  (fr:∀b o,H b=some o->b≠ka->b≠ua->b≠p->H' b=some o) (hG:∀x∈G,x∈G') (gG:∀a∈G'.map Prod.snd,a∈G.map Prod.snd\/H a=none) (g':bT G' H') (hp':H' p=some (.ins kk.D dx fs')) (F':gE fs' n' tG dB) (Sx:(p,tG)∈G') (AN:(p,dB)∈G') (hn':Nm G H (.ref n') q'.slots) (hk':H' tG=some (.lst ks')) (pk:Paired (Nm G H) ks' q'.past.reverse) (hu':H' dB=some (.lst us')) (pu:Paired (Nm G H) us' q'.ahead.reverse) (ne:tG≠dB) (fw:q'.past.length+q'.ahead.length<=32):br G' H' p q'/\Fz G G' H H':=by
 have fd:ag (fz G H) (fz G' H'):=jy (λb o e=>fr b o (dQ e).1 (λz=>AO g e (z▸iA ik)) (λz=>AO g e (z▸iA iu)) (oh hp (Ne.symm ok.pd) e)) gG;have gl:∀ {b:Addr},(p,b)∈G->∀ {o:HO},H b=some o->∃xs,o=.lst xs:=λm o e=>by
  obtain⟨xs,h⟩:=g.at_ _ (iA m);rw[h]at e;exact#[xs,(XW e).symm]
 have mv:∀ {v:V} {l:Slots},Nm G H v l->Nm G' H' v l:=λ{v l} h=>by
  obtain⟨⟨n,e,q⟩,a,b⟩:=h;obtain⟨gD,tE,hi⟩:=q.ins;have np:n≠p:=λz=>by
   rw[z,hp]at hi;injection hi with hi;injection hi with hi _ _;exact ok.dn hi
  have nl:∀ {b:Addr},(p,b)∈G->n≠b:=λm z=>by
   obtain⟨xs,h⟩:=gl m (z▸hi);cases h
  refine#[#[n,e,q.keep (λo ho=>fr _ _ ho (nl ik) (nl iu) np) (λa o ha ho=>fr _ _ ho (λz=>np (g.one ha (z▸ik))) (λz=>np (g.one ha (z▸iu))) λz=>?_) hG fd],a,b];exact g.ins hp (z▸iA ha)
 refine#[#[g',#[dx,fs',n',tG,dB,ks',us',hp',F',Sx,AN,mv hn',hk',Paired.aY pk λ_ _ z=>mv z,hu',Paired.aY pu λ_ _ z=>mv z,ne],fw],fd,λb c dx fs e h1 h2=>fr b _ e (λz=>?_) (λz=>?_) λz=>by rw[z,hp]at e;cases e;exact h1 rfl,λb o u e=>fr b _ e (λz=>?_) (λz=>?_) λz=>by rw[z,hp]at e;cases e]
 .obtain⟨xs,h⟩:=gl (z▸ik) e;cases h
 .obtain⟨xs,h⟩:=gl (z▸iu) e;cases h
 .obtain⟨xs,h⟩:=gl (z▸ik) e;cases h
 .obtain⟨xs,h⟩:=gl (z▸iu) e;cases h
def AR{fs:List (Str×V)}(hp:H p=some (.ins kk.D dx fs))(hk:H ka=some (.lst ks))(hu:H ua=some (.lst us))(fr:∀b o,H b=some o->b≠ka->b≠ua->b≠p->H' b=some o)(t:bJ H):bJ H':=qm _ _ t λb o e n1 n2=>
 fr b o e (λz=>by rw[z,hk]at e;exact n2 _ (XW e).symm) (λz=>by rw[z,hu]at e;exact n2 _ (XW e).symm) λz=>by rw[z,hp]at e;exact n1 _ _ _ (XW e).symm
end
structure eZ(mg:ZQ):Prop extends j2 mg where
 Sy:a8 mg "MOST_BYTES" 200
 Sz:a8 mg "MOST_CHANGES" 32
 om:a8 mg "STANDS_FOR_NOTHING" (-2)
 Ip:a8 mg "NO_CHANGE" (-6)
 qp:a8 mg "NOT_AS_TOLD" (-22)
 AS:a8 mg "NOT_DRAWN" (-34)
 SA:a8 mg "IS_USED" (-35)
 SE:a8 mg "USES_ITSELF" (-41)
 SF:a8 mg "NO_WORDS" (-71)
structure dG(K:ZX)(C:Addr):Prop where
 cl:d9 K C
 at_:∀x∈oj,du K C x
def dG.a7{C:Addr}(S:dG K C)(x:Str)(h:x∈oj:=by decide):du K C x:=S.at_ x h
def refOf(q:Shop)(k:Nat):Int:=if(Kyq.at_ q.slots k).isNone=true then -2 else if(bM q.slots k).isNone=true then -34 else 0
inductive lj(vs:List V)(H:Hp)(Q:VK)(E:XK):Prop|mk(p q k G:_)(_:vs=[.ref p,.int (k:Nat)])(_:br G H p q)(_:bJ H)(_:∀H',br G H' p q->bJ H'->Fz G G H H'->Q (.int (refOf q k)) H')
theorem jA(l8:l.length=8)(h:(Kyq.at_ l k).isNone=false):k<8:=by
 apply Z8;intro z;unfold Kyq.at_ at h;rw[XU,Yu (by lia)]at h;cases h
def SG(T:eZ mg)(N:dW K kk.N)(S:dG K kk.D)(ok:cY.Ok)(D:bI K kk.D "refusal" "Designs.refusal" (inClass (top 94) 9) ["self","k"])(gd:aF P w K mg base 1 kk.N "stands" ["self","k"] (qi))
  (dE:aF P w K mg base 11 kk.N "drawing_of" ["self","k"] (mO (bJ))):aF P w K mg base 12 kk.D "refusal" ["self","k"] (lj):=by
 refine D.go ["self","k"] S.cl λnd H vs Q E hr h=>?_;obtain⟨p,q,k,G,rfl,sh,tb,kq⟩:=h;have sh':=sh;obtain⟨_,⟨dx,fs,n,ka,ua,ks,us,hp,F,_,_,⟨⟨n',en,hnm⟩,l8,ac⟩,_⟩,_⟩:=sh;cases en;have hnm':=hnm;obtain⟨bX,Iq,Ir,Iu,Iv,SH,hin,_⟩:=hnm;have nN:=(S.a7 "names")
 refine#[_,(aM (iG (e_ (bq gd (aK K (pv 0)) (au (pv 1))) (λ_=>rfl))) (ax (aE T.om)) (aM (aL jN (bq dE (aK K (pv 0)) (au (pv 1))) b_) (ax (aE T.AS)) (ax aw))),?_];refine#[_,rfl,p,kk.D,dx,_,_,rfl,hp,S.cl,nN,F.names,n,bX,_,rfl,hin,rfl,_,rfl,n,q.slots,k,G,rfl,hnm',l8,_,rfl,bg (λh=>?_) (λh=>?_)]
 .have e:(Kyq.at_ q.slots k).isNone=true:=by
   cases z:Kyq.at_ q.slots k with|none=>rfl|some e=>rw[z]at h;cases h
  have r:=kq H sh' tb (Fz.refl _);unfold refOf at r;rw[if_pos e]at r;exact r
 .have e:(Kyq.at_ q.slots k).isNone=false:=by
   cases z:Kyq.at_ q.slots k with|none=>rw[z]at h;exact absurd rfl h|some e=>rfl
  refine#[_,rfl,p,kk.D,dx,_,_,rfl,hp,S.cl,nN,F.names,n,bX,_,rfl,hin,rfl,_,rfl,n,q.slots,k,G,rfl,sh'.ok,hnm',l8,ac,jA l8 e,tb,λH1 z s1 t1 g1 n1 io=>?_];have sh1:=br.drawn ok hnm' s1 tb.bK g1 n1 sh';have f1:=j5 ok sh'.ok hnm' tb.bK s1;have r:=kq H1 sh1 t1 f1;unfold refOf at r;rw[if_neg (by rw[e];decide)]at r;refine#[rfl,_,rfl,bV (λh=>?_) (λh=>?_)]
  .rw[h]at io;cases q2:bM q.slots k with|none=>rw[q2]at r;exact r|some b=>
    rw[q2]at io;obtain⟨_,_,e,_⟩:=io;cases e
  .cases q2:bM q.slots k with|none=>rw[q2]at io;exact absurd io h|some b=>rw[q2]at r;exact r
def fR(q:Shop)(k:Nat)(g:Rows->List Int):List Int:=if(Kyq.at_ q.slots k).isNone=true then[-2]else match bM q.slots k with
 |none=>[-34]
 |some b=>g b
inductive fS(f:Shop->Nat->List Int)(vs:List V)(H:Hp)(Q:VK)(E:XK):Prop|mk(p q k G:_)(_:vs=[.ref p,.int (k:Nat)])(_:br G H p q)(_:bJ H)(_:∀H' r,br G H' p q->bJ H'->Fz G G H H'->H' r=some (.lst ((f q k).map V.int))->Q (.ref r) H')
def br.cD(h:br G H p q):KZ λdx fs n ka ua bX ea dF dv bU=>H p=some (.ins kk.D dx fs)/\gE fs n ka ua/\ck G H n q.slots/\H n=some (.ins kk.N bX (nf ea dF dv bU))/\q.slots.length=8/\Qm.Acyclic q.slots/\cb q.slots:=by
 obtain⟨_,⟨dx,fs,n,ka,ua,ks,us,hp,F,_,_,⟨⟨n',en,hnm⟩,l8,ac⟩,_⟩,_⟩:=h;cases en;have hnm':=hnm;obtain⟨bX,Iq,Ir,Iu,Iv,SH,hin,_,_,ie,_⟩:=hnm;exact#[dx,fs,n,ka,ua,bX,Iq,Ir,Iu,Iv,hp,F,hnm',hin,l8,ac,AL ie l8]
theorem oo(g:Rows->List Int)(h:refOf q k<0):fR q k g=[refOf q k]:=by
 unfold refOf at h ⊢;unfold fR;by_cases e:(Kyq.at_ q.slots k).isNone=true
 .rw[if_pos e,if_pos e]
 .rw[if_neg e,if_neg e];rw[if_neg e]at h;cases z:bM q.slots k with|none=>rfl|some b=>
   rw[z]at h;have h:(0:Int)<0:=h
   lia
def ly(h:¬refOf q k<0):(Kyq.at_ q.slots k).isNone=false/\∃b,bM q.slots k=some b/\∀g,fR q k g=g b:=by
 unfold refOf at h;by_cases e:(Kyq.at_ q.slots k).isNone=true
 .rw[if_pos e]at h;exact absurd (by decide) h
 .rw[if_neg e]at h;cases z:bM q.slots k with|none=>rw[z]at h;exact absurd (by decide) h|some b=>
   refine#[by cases q0:(Kyq.at_ q.slots k).isNone with|true=>exact absurd q0 e|false=>rfl,b,rfl,λg=>?_];unfold fR;rw[if_neg e,z]
def qr(q:Shop)(k:Nat):List Int:=fR q k λb=>[(b.length:Nat),(Qm.width b:Nat)]
def SI(T:eZ mg)(N:dW K kk.N)(S:dG K kk.D)(ok:cY.Ok)(D:bI K kk.D "size" "Designs.size" (inClass (top 94) 10) ["self","k"])(c6:aF P w K mg base 12 kk.D "refusal" ["self","k"] (lj))
  (dE:aF P w K mg base 11 kk.N "drawing_of" ["self","k"] (mO (bJ))):aF P w K mg base 13 kk.D "size" ["self","k"] (fS qr):=by
 refine D.go ["self","k","refused","block"] S.cl λnd H vs Q E hr h=>?_;obtain⟨p,q,k,G,rfl,sh,tb,kq⟩:=h;obtain⟨dx,fs,n,ka,ua,bX,ea,dF,dv,bU,hp,F,hnm,hin,l8,ac,O⟩:=sh.cD;have nN:=(S.a7 "names")
 refine#[_,(aC (aR 2 (bq c6 (pv 0) (au (pv 1)))) (aM (aL gu (pv 2) aw) (ax (aV (au (pv 2)))) (aC (aR 3 (bq dE (aK K (pv 0)) (au (pv 1)))) (ax (aV (aU (bO K T.bP (pv 3)) (bO K T.bP (a0 K (pv 3) aw)))))))),?_];refine#[_,rfl,p,dx,fs,rfl,hp,F.dg,_,rfl,p,q,k,G,rfl,sh,tb,λH1 sh1 t1 f1=>?_];refine#[_,rfl,_,_,rfl,rfl,_,rfl,bV (λh=>?_) (λh=>?_)]
 .refine#[_,rfl,bu,λr hr0=>kq _ r (sh1.mono (ai hr0)) (t1.mono (ai hr0)) (f1.trans (Fz.same (ai hr0))) ?_];unfold qr;rw[oo _ h];exact ab
 .obtain⟨e,b,eb,eg⟩:=ly h;obtain⟨dX,fs1,n1,tI,tJ,j6,tK,tM,tN,bU,hp1,F1,dY,iU,_⟩:=sh1.cD;refine#[_,rfl,p,kk.D,dX,_,_,rfl,hp1,S.cl,nN,F1.names,n1,j6,_,rfl,iU,rfl,_,rfl,n1,q.slots,k,G,rfl,sh1.ok,dY,l8,ac,jA l8 e,t1,λH2 z s2 t2 g2 n2 io=>?_];have fT:=br.drawn ok dY s2 t1.bK g2 n2 sh1;have f2:=f1.trans (j5 ok sh1.ok dY t1.bK s2);have fb:=jW O eb;rw[eb]at io;have io:=a_.mono cZ io;obtain⟨a,vs,rfl,ha,pr⟩:=io;obtain⟨row,hrow⟩:∃row,b[0]?=some row:=#[_,XT fb.good.h1]
  obtain⟨v0,hv0,r0,fU,rfl,hr0,lA⟩:=Paired.get pr hrow;refine#[_,rfl,a,vs,rfl,.inl (af.of ha),_,rfl,a,vs,0,_,rfl,rfl,af.of ha,at_of (j:=0) rfl hv0,r0,fU,rfl,.inl (af.of hr0),(by show 2<=sizeLine;decide),λr hrn=>kq _ r (fT.mono (ai hrn)) (t2.mono (ai hrn)) (f2.trans (Fz.same (ai hrn))) ?_];rw[ab];have e1:vs.length=b.length:=pr.length;have e2:fU.length=Qm.width b:=by
   rw[lA.length];exact fb.good.row row (X_ hrow)
  unfold qr;rw[eg,<-e1,<-e2];rfl
def qt(q:Shop)(k:Nat):List Int:=fR q k λb=>0::(halves b.flatten).map λn=>((n:Nat):Int)
def oq(l:List Nat):(l.map λn=>((n:Nat):Int)).map V.int=l.map λn=>V.int (n:Nat):=by rw[Y1];rfl
def SJ(T:eZ mg)(N:dW K kk.N)(S:dG K kk.D)(ok:cY.Ok)(D:bI K kk.D "halves" "Designs.halves" (inClass (top 94) 12) ["self","k"])(c6:aF P w K mg base 12 kk.D "refusal" ["self","k"] (lj))
  (dE:aF P w K mg base 11 kk.N "drawing_of" ["self","k"] (mO (bJ))) (AU:aH P w K mg base 2 "halves_of" ["block"] Ht):aF P w K mg base 13 kk.D "halves" ["self","k"] (fS qt):=by
 refine D.go ["self","k","refused"] S.cl λnd H vs Q E hr h=>?_;obtain⟨p,q,k,G,rfl,sh,tb,kq⟩:=h;obtain⟨dx,fs,n,ka,ua,bX,ea,dF,dv,bU,hp,F,hnm,hin,l8,ac,O⟩:=sh.cD;have nN:=(S.a7 "names")
 refine#[_,(aC (aR 2 (bq c6 (pv 0) (au (pv 1)))) (aM (aL gu (pv 2) aw) (ax (aV (au (pv 2)))) (ax (aO jO (aV (au aw)) (bh AU (au (bq dE (aK K (pv 0)) (au (pv 1))))))))),?_];refine#[_,rfl,p,dx,fs,rfl,hp,F.dg,_,rfl,p,q,k,G,rfl,sh,tb,λH1 sh1 t1 f1=>?_];refine#[_,rfl,_,_,rfl,rfl,_,rfl,bV (λh=>?_) (λh=>?_)]
 .refine#[_,rfl,bu,λr hr0=>kq _ r (sh1.mono (ai hr0)) (t1.mono (ai hr0)) (f1.trans (Fz.same (ai hr0))) ?_];unfold qt;rw[oo _ h];exact ab
 .obtain⟨e,b,eb,eg⟩:=ly h;refine#[bu,λL hL=>?_];have sL:ag H1 (upd H1 L (.lst [.int 0])):=ai hL;have wX:=sh1.mono sL;have tL:=t1.mono sL;obtain⟨dX,fs1,n1,tI,tJ,j6,tK,tM,tN,bU,hp1,F1,dY,iU,_⟩:=wX.cD;refine#[_,rfl,p,kk.D,dX,_,_,rfl,hp1,S.cl,nN,F1.names,n1,j6,_,rfl,iU,rfl,_,rfl,n1,q.slots,k,G,rfl,wX.ok,dY,l8,ac,jA l8 e,tL,λH2 z s2 t2 g2 n2 io=>?_];have fT:=br.drawn ok dY s2 tL.bK g2 n2 wX;have f2:=(f1.trans (Fz.same sL)).trans (j5 ok wX.ok dY tL.bK s2);have fb:=jW O eb;have hL2:H2 L=some (.lst [.int 0]):=s2 _ _ ab (λz=>by
   obtain⟨ps,e⟩:=t1.bK;rw[<-z,hL]at e;cases e) (λz=>by
   rw[<-z,ab]at iU;cases iU) λz=>sh1.ok.out hL (iA z)
  rw[eb]at io;have io:=a_.mono cZ io;refine#[z,b,rfl,io,fb,λH3 u s3 iu=>?_];obtain⟨a,rfl,ha⟩:=iu;refine#[L,a,_,_,rfl,rfl,s3 _ _ hL2,ha,?_,λr hrn=>kq _ r ((fT.mono s3).mono (ai hrn)) ((t2.mono s3).mono (ai hrn)) ((f2.trans (Fz.same s3)).trans (Fz.same (ai hrn))) ?_]
  .rw[XX,show(halves b.flatten).length=9 from sO _ _ rfl];show 1+9<=sizeLine;decide
  .rw[ab];unfold qt;rw[eg,X7,oq];rfl
def qu(q:Shop)(k:Nat):List Int:=fR q k λb=>[((oe (eG b 8):Nat):Int),((eG b 8:Nat):Int)]
def SK(T:eZ mg)(N:dW K kk.N)(S:dG K kk.D)(ok:cY.Ok)(D:bI K kk.D "fixing" "Designs.fixing" (inClass (top 94) 14) ["self","k"])(c6:aF P w K mg base 12 kk.D "refusal" ["self","k"] (lj))
  (dE:aF P w K mg base 11 kk.N "drawing_of" ["self","k"] (mO (bJ))) (AV:aH P w K mg base 5 "fixing_bits" ["block"] Hs) (qo:aH P w K mg base 1 "count_bits" ["bits"] Ay):aF P w K mg base 13 kk.D "fixing" ["self","k"] (fS qu):=by
 refine D.go ["self","k","refused","bits"] S.cl λnd H vs Q E hr h=>?_;obtain⟨p,q,k,G,rfl,sh,tb,kq⟩:=h;obtain⟨dx,fs,n,ka,ua,bX,ea,dF,dv,bU,hp,F,hnm,hin,l8,ac,O⟩:=sh.cD;have nN:=(S.a7 "names")
 refine#[_,(aC (aR 2 (bq c6 (pv 0) (au (pv 1)))) (aM (aL gu (pv 2) aw) (ax (aV (au (pv 2)))) (aC (aR 3 (bh AV (au (bq dE (aK K (pv 0)) (au (pv 1)))))) (ax (aV (aU (bh qo (au (pv 3))) (pv 3))))))),?_];refine#[_,rfl,p,dx,fs,rfl,hp,F.dg,_,rfl,p,q,k,G,rfl,sh,tb,λH1 sh1 t1 f1=>?_];refine#[_,rfl,_,_,rfl,rfl,_,rfl,bV (λh=>?_) (λh=>?_)]
 .refine#[_,rfl,bu,λr hr0=>kq _ r (sh1.mono (ai hr0)) (t1.mono (ai hr0)) (f1.trans (Fz.same (ai hr0))) ?_];unfold qu;rw[oo _ h];exact ab
 .obtain⟨e,b,eb,eg⟩:=ly h;obtain⟨dX,fs1,n1,tI,tJ,j6,tK,tM,tN,bU,hp1,F1,dY,iU,_⟩:=sh1.cD;refine#[_,rfl,p,kk.D,dX,_,_,rfl,hp1,S.cl,nN,F1.names,n1,j6,_,rfl,iU,rfl,_,rfl,n1,q.slots,k,G,rfl,sh1.ok,dY,l8,ac,jA l8 e,t1,λH2 z s2 t2 g2 n2 io=>?_];have fT:=br.drawn ok dY s2 t1.bK g2 n2 sh1;have f2:=f1.trans (j5 ok sh1.ok dY t1.bK s2);have fb:=jW O eb;rw[eb]at io;have io:=a_.mono cZ io;refine#[z,b,rfl,io,fb,λH3 u s3 iu=>?_];have iu:u=.int (eG b 8:Nat):=iu;subst iu;refine#[_,rfl,_,_,rfl,rfl,trivial,λH4 u s4 AW=>?_];have AW:u=.int (oe (eG b 8):Nat):=AW;subst AW;refine#[_,rfl,(by show 2<=sizeLine;decide),λr hrn=>kq _ r (((fT.mono s3).mono s4).mono (ai hrn)) (((t2.mono s3).mono s4).mono (ai hrn)) (((f2.trans (Fz.same s3)).trans (Fz.same s4)).trans (Fz.same (ai hrn))) ?_];rw[ab];unfold qu;rw[eg];rfl
def qv(q:Shop)(k:Nat):List Int:=fR q k λb=>((b.length:Nat):Int)::((Qm.width b:Nat):Int)::(b.flatten.flatMap Kyq.patchNumbers).map λn=>((n:Nat):Int)
theorem SM(T:eZ mg)(N:dW K kk.N)(S:dG K kk.D)(ok:cY.Ok)(D:bI K kk.D "draw" "Designs.draw" (inClass (top 94) 11) ["self","k"])(c6:aF P w K mg base 12 kk.D "refusal" ["self","k"] (lj))
  (dE:aF P w K mg base 11 kk.N "drawing_of" ["self","k"] (mO (bJ))) (p9:aH P w K mg base 1 "patches_of" ["block"] z_):aF P w K mg base 13 kk.D "draw" ["self","k"] (fS qv):=by
 refine D.go ["self","k","refused","block","answer","patch"] S.cl λnd H vs Q E hr h=>?_;obtain⟨p,q,k,G,rfl,sh,tb,kq⟩:=h;obtain⟨dx,fs,n,ka,ua,bX,ea,dF,dv,bU,hp,F,hnm,hin,l8,ac,O⟩:=sh.cD;have nN:=(S.a7 "names")
 refine#[_,(aC (aR 2 (bq c6 (pv 0) (au (pv 1)))) (aM (aL gu (pv 2) aw) (ax (aV (au (pv 2)))) (aC (aR 3 (bq dE (aK K (pv 0)) (au (pv 1)))) (aC (aR 4 (aV (aU (bO K T.bP (pv 3)) (bO K T.bP (a0 K (pv 3) aw))))) (aC (dq PassesOwn.never rfl (gq (dO (bh p9 (au (pv 3))))) (bQ 5) (bF (cK (c_ X4 Zt Zu (OG K) (pv 4) (au (pv 5)))))) (ax (pv 4))))))),?_];refine#[_,rfl,p,dx,fs,rfl,hp,F.dg,_,rfl,p,q,k,G,rfl,sh,tb,λH1 sh1 t1 f1=>?_];refine#[_,rfl,_,_,rfl,rfl,_,rfl,bV (λh=>?_) (λh=>?_)]
 .refine#[_,rfl,bu,λr hr0=>kq _ r (sh1.mono (ai hr0)) (t1.mono (ai hr0)) (f1.trans (Fz.same (ai hr0))) ?_];unfold qv;rw[oo _ h];exact ab
 .obtain⟨e,b,eb,eg⟩:=ly h;obtain⟨dX,fs1,n1,tI,tJ,j6,tK,tM,tN,bU,hp1,F1,dY,iU,_⟩:=sh1.cD;refine#[_,rfl,p,kk.D,dX,_,_,rfl,hp1,S.cl,nN,F1.names,n1,j6,_,rfl,iU,rfl,_,rfl,n1,q.slots,k,G,rfl,sh1.ok,dY,l8,ac,jA l8 e,t1,λH2 z s2 t2 g2 n2 io=>?_];have fT:=br.drawn ok dY s2 t1.bK g2 n2 sh1;have f2:=f1.trans (j5 ok sh1.ok dY t1.bK s2);have fb:=jW O eb;rw[eb]at io;have io:=a_.mono cZ io;have SN:a_ H2 z b:=io;obtain⟨a,vs,rfl,ha,pr⟩:=io;obtain⟨row,hrow⟩:∃row,b[0]?=some row:=#[_,XT fb.good.h1]
  obtain⟨v0,hv0,r0,fU,rfl,hr0,lA⟩:=Paired.get pr hrow;refine#[_,rfl,a,vs,rfl,.inl (af.of ha),_,rfl,a,vs,0,_,rfl,rfl,af.of ha,at_of (j:=0) rfl hv0,r0,fU,rfl,.inl (af.of hr0),(by show 2<=sizeLine;decide),λD hD=>?_];have e1:vs.length=b.length:=pr.length;have e2:fU.length=Qm.width b:=by
   rw[lA.length];exact fb.good.row row (X_ hrow)
  rw[e1,e2];refine#[D,_,ab,_,rfl,_,b,rfl,?_,fb,λH3 u s3 ir=>?_]
  .rw[cf hD];exact SN
  rw[cf hD]at s3;obtain⟨pa,ps,rfl,hpa,j7⟩:=ir;intro ot;have Iw:pa≠D:=λz=>by rw[z,ot]at hpa;cases hpa
  have big:b.flatten.length<=36:=by
   have h6:=fb.good.h6;have w6:=fb.good.w6;have AX:=fb.good.row;have gen:∀(l:Rows) (m:Nat),(∀x∈l,x.length<=m)->l.flatten.length<=l.length*m:=by
    intro l m
    induction l with|nil=>intro _;simp|cons x r ih=>
     intro hx;have a1:=hx x (by simp);have a2:=ih λy hy=>hx y (by simp[hy]);rw[Yt,XY,X2,YY]
     lia
   have g6:=gen b 6 λx hx=>by rw[AX x hx];exact w6
   lia
  refine#[pa,rfl,#[ps,af.of (by rw[ae Iw];exact hpa)],kF (K:=K) (a:=pa) (xs:=ps) (λi σ H'=>∃v5,σ=[some (.ref p),some (.int (k:Nat)),some (.int (refOf q k)),some (.ref a),some (.ref D),v5]/\H'=upd H3 D (.lst ((((b.length:Nat):Int)::((Qm.width b:Nat):Int)::((b.flatten.take i).flatMap Kyq.patchNumbers).map λn=>((n:Nat):Int)).map V.int))) #[none,rfl,rfl] (λi σ H' _ ⟨_,_,h⟩=>by rw[h];exact af.of (by rw[ae Iw];exact hpa)) ?_ ?_]
  .rintro i x σ H' hi ⟨v5,rfl,rfl⟩;obtain⟨pt,hpt,t,rfl,ht⟩:=Paired.getL j7 hi;have tD:t≠D:=λz=>by rw[z,ot]at ht;cases ht
   have Xo:i<b.flatten.length:=(XZ.mp hpt).1;have SO:∀l:List Patch,(l.flatMap Kyq.patchNumbers).length=3*l.length:=by
    intro l
    induction l with|nil=>rfl|cons x r ih=>rw[Yy,XY,ih,X2];show 3+_=_;lia
   refine#[_,rfl,.inl #[rfl,_,af.of ab],_,rfl,D,t,_,_,rfl,rfl,ab,aI.of (by rw[ae tD];exact ht),?_,some (.ref t),rfl,?_]
   .rw[XX,X2,X2,XX,SO,YF];exact X8 (show _<=200 by simp only[X2,YD];lia) (by decide)
   .rw[L2.d7,take_snoc hpt,Zw]
    congr 2
    simp[Kyq.patchNumbers]
  .rintro σ H' ⟨v5,rfl,rfl⟩;have sD:=ai (o:=HO.lst ((((b.length:Nat):Int)::((Qm.width b:Nat):Int)::((b.flatten.take ps.length).flatMap Kyq.patchNumbers).map λn=>((n:Nat):Int)).map V.int)) ot;refine#[_,rfl,kq _ D ((fT.mono s3).mono sD) ((t2.mono s3).mono sD) ((f2.trans (Fz.same s3)).trans (Fz.same sD)) ?_];rw[ab];unfold qv;rw[eg,j7.length,YO]
theorem j9:∀e:Exp,(Kyq1.written e).length<=3*(Qm.toks e).length
 |.patch p=>by
  show(Kyq1.patchText p).length<=3*1;unfold Kyq1.patchText;split<;>simp
 |.name k=>by show 2<=3*1;decide
 |.turn e=>by have:=j9 e;show(Kyq1.written e).length+1<=3*((Qm.toks e).length+1);lia
 |.mirror e=>by have:=j9 e;show(Kyq1.written e).length+1<=3*((Qm.toks e).length+1);lia
 |.beside x y=>by
  have:=j9 x;have:=j9 y;show(Kyq1.written x++Kyq1.written y).length+1<=3*((Qm.toks x++Qm.toks y).length+1);rw[XY,XY]
  lia
 |.above x y=>by
  have:=j9 x;have:=j9 y;show(Kyq1.written x++Kyq1.written y).length+1<=3*((Qm.toks x++Qm.toks y).length+1);rw[XY,XY]
  lia
 |.across n e=>by have:=j9 e;show(Kyq1.written e).length+1+1<=3*((Qm.toks e).length+1);lia
 |.down n e=>by have:=j9 e;show(Kyq1.written e).length+1+1<=3*((Qm.toks e).length+1);lia
def some_of(h:(Kyq.at_ l k).isNone=false):∃e,Kyq.at_ l k=some e/\l[k]?=some (some e):=by
 cases q:Kyq.at_ l k with|none=>rw[q]at h;cases h|some e=>
  refine#[e,rfl,?_];unfold Kyq.at_ at q;rw[XU]at q;cases r:l[k]? with|none=>rw[r]at q;cases q|some o=>rw[r]at q;exact congrArg some q
def lB(q:Shop)(k:Nat):List Int:=match Kyq.at_ q.slots k with
 |none=>[-2]
 |some e=>(((Kyq1.written e).length:Nat):Int)::(Kyq1.written e).map λn=>((n:Nat):Int)
theorem SQ(T:eZ mg)(N:dW K kk.N)(S:dG K kk.D)(D:bI K kk.D "text" "Designs.text" (inClass (top 94) 6) ["self","k"])(gd:aF P w K mg base 1 kk.N "stands" ["self","k"] (qi)):aF P w K mg base 13 kk.D "text" ["self","k"] (fS lB):=by
 refine D.go ["self","k","words"] S.cl λnd H vs Q E hr h=>?_;obtain⟨p,q,k,G,rfl,sh,tb,kq⟩:=h;obtain⟨dx,fs,n,ka,ua,bX,ea,dF,dv,bU,hp,F,hnm,hin,l8,ac,O⟩:=sh.cD;have nN:=(S.a7 "names")
 refine#[_,(aM (iG (e_ (bq gd (aK K (pv 0)) (au (pv 1))) (λ_=>rfl))) (ax (aV (au (aE T.om)))) (aC (aR 2 (bE K (a0 K (aK K (aK K (pv 0))) (pv 1)) aw)) (ax (aO jO (aV (au (bO K T.bP (pv 2)))) (pv 2))))),?_];refine#[_,rfl,p,kk.D,dx,_,_,rfl,hp,S.cl,nN,F.names,n,bX,_,rfl,hin,rfl,_,rfl,n,q.slots,k,G,rfl,hnm,l8,_,rfl,bg (λh=>?_) (λh=>?_)]
 .have e:Kyq.at_ q.slots k=none:=by
   cases z:Kyq.at_ q.slots k with|none=>rfl|some e=>rw[z]at h;cases h
  refine#[bu,λr hr0=>kq _ r (sh.mono (ai hr0)) (tb.mono (ai hr0)) (Fz.same (ai hr0)) ?_];unfold lB;rw[e];exact ab
 .have e:(Kyq.at_ q.slots k).isNone=false:=by
   cases z:Kyq.at_ q.slots k with|none=>rw[z]at h;exact absurd rfl h|some e=>rfl
  obtain⟨x,hx,hxi⟩:=some_of e;have AY:=hnm;obtain⟨AZ,tq,dB,dv',qk,ps',A0,_,_,⟨_,es,ee,eK,pre⟩,_⟩:=AY;cases ee;have pre:=Paired.aY pre λ_ _ z=>fQ.mono cZ z;have eK:=cZ _ _ eK;obtain⟨v,hv,ok,Ii,t,wv,tv,rfl,ht,⟨wa,rfl,fi⟩,_⟩:=Paired.get pre hxi;refine#[_,rfl,p,kk.D,dx,_,_,rfl,hp,S.cl,nN,F.names,n,kk.N,AZ,_,_,rfl,A0,N.cl,N.nE,rfl,_,rfl,tq,es,_,_,rfl,rfl,af.of eK,cB hv,t,_,0,_,rfl,rfl,aI.of ht,rfl,?_];refine#[_,rfl,wa,_,rfl,.inl (af.of fi),bu,λL hL=>?_];have sL:=ai (o:=HO.lst [V.int (((Kyq1.written x).map λn=>V.int (n:Nat)).length:Nat)]) hL;refine#[_,rfl,L,wa,_,_,rfl,rfl,ab,sL _ _ fi,?_,λr hrn=>kq _ r ((sh.mono sL).mono (ai hrn)) ((tb.mono sL).mono (ai hrn)) ((Fz.same sL).trans (Fz.same (ai hrn))) ?_]
  .rw[XX];have:=j9 x;exact X8 (show _<=4000 by simp only[X2,YD];lia) (by decide)
  .rw[ab];unfold lB;rw[hx,XX];show _=some (HO.lst (V.int _::List.map V.int _));rw[oq];rfl
def lC(q:Shop)(k:Nat):List Int:=if(Kyq.at_ q.slots k).isNone=true then[-2]else[(((c3 q.slots).getD k 0:Nat):Int)]
def SR(T:eZ mg)(N:dW K kk.N)(S:dG K kk.D)(D:bI K kk.D "uses" "Designs.uses" (inClass (top 94) 7) ["self","k"])(gd:aF P w K mg base 1 kk.N "stands" ["self","k"] (qi)):aF P w K mg base 13 kk.D "uses" ["self","k"] (fS lC):=by
 refine D.go ["self","k"] S.cl λnd H vs Q E hr h=>?_;obtain⟨p,q,k,G,rfl,sh,tb,kq⟩:=h;obtain⟨dx,fs,n,ka,ua,bX,ea,dF,dv,bU,hp,F,hnm,hin,l8,ac,O⟩:=sh.cD;have nN:=(S.a7 "names")
 refine#[_,(aM (iG (e_ (bq gd (aK K (pv 0)) (au (pv 1))) (λ_=>rfl))) (ax (aV (au (aE T.om)))) (ax (aV (au (a0 K (aK K (aK K (pv 0))) (pv 1)))))),?_];refine#[_,rfl,p,kk.D,dx,_,_,rfl,hp,S.cl,nN,F.names,n,bX,_,rfl,hin,rfl,_,rfl,n,q.slots,k,G,rfl,hnm,l8,_,rfl,bg (λh=>?_) (λh=>?_)]
 .have e:(Kyq.at_ q.slots k).isNone=true:=by
   cases z:Kyq.at_ q.slots k with|none=>rfl|some e=>rw[z]at h;cases h
  refine#[bu,λr hr0=>kq _ r (sh.mono (ai hr0)) (tb.mono (ai hr0)) (Fz.same (ai hr0)) ?_];unfold lC;rw[if_pos e];exact ab
 .have e:(Kyq.at_ q.slots k).isNone=false:=by
   cases z:Kyq.at_ q.slots k with|none=>rw[z]at h;exact absurd rfl h|some e=>rfl
  have AY:=hnm;obtain⟨AZ,tq,dB,dv',qk,ps',A0,_,_,_,⟨_,ee,dA⟩,_⟩:=AY;cases ee;have dA:=cZ _ _ dA;refine#[_,rfl,p,kk.D,dx,_,_,rfl,hp,S.cl,nN,F.names,n,kk.N,AZ,_,_,rfl,A0,N.cl,N.nU,rfl,_,rfl,dB,_,_,_,rfl,rfl,af.of dA,cB (map_getD (by rw[wJ];exact jA l8 e)),bu,λr hrn=>kq _ r (sh.mono (ai hrn)) (tb.mono (ai hrn)) (Fz.same (ai hrn)) ?_];rw[ab];unfold lC;rw[if_neg (by rw[e];decide)];rfl
def lD(q:Shop)(k:Nat):List Int:=if(Kyq.at_ q.slots k).isNone=true then[-2]else[((cO q.slots k 8:Nat):Int)]
def SS(T:eZ mg)(N:dW K kk.N)(S:dG K kk.D)(D:bI K kk.D "users" "Designs.users" (inClass (top 94) 8) ["self","k"])(gd:aF P w K mg base 1 kk.N "stands" ["self","k"] (qi))(qw:aF P w K mg base 2 kk.N "users_of" ["self","k"] (AG)):aF P w K mg base 13 kk.D "users" ["self","k"] (fS lD):=by
 refine D.go ["self","k"] S.cl λnd H vs Q E hr h=>?_;obtain⟨p,q,k,G,rfl,sh,tb,kq⟩:=h;obtain⟨dx,fs,n,ka,ua,bX,ea,dF,dv,bU,hp,F,hnm,hin,l8,ac,O⟩:=sh.cD;have nN:=(S.a7 "names")
 refine#[_,(aM (iG (e_ (bq gd (aK K (pv 0)) (au (pv 1))) (λ_=>rfl))) (ax (aV (au (aE T.om)))) (ax (aV (au (bq qw (aK K (pv 0)) (au (pv 1))))))),?_];refine#[_,rfl,p,kk.D,dx,_,_,rfl,hp,S.cl,nN,F.names,n,bX,_,rfl,hin,rfl,_,rfl,n,q.slots,k,G,rfl,hnm,l8,_,rfl,bg (λh=>?_) (λh=>?_)]
 .have e:(Kyq.at_ q.slots k).isNone=true:=by
   cases z:Kyq.at_ q.slots k with|none=>rfl|some e=>rw[z]at h;cases h
  refine#[bu,λr hr0=>kq _ r (sh.mono (ai hr0)) (tb.mono (ai hr0)) (Fz.same (ai hr0)) ?_];unfold lD;rw[if_pos e];exact ab
 .have e:(Kyq.at_ q.slots k).isNone=false:=by
   cases z:Kyq.at_ q.slots k with|none=>rw[z]at h;exact absurd rfl h|some e=>rfl
  refine#[_,rfl,p,kk.D,dx,_,_,rfl,hp,S.cl,nN,F.names,n,bX,_,rfl,hin,rfl,_,rfl,n,q.slots,k,G,rfl,hnm,λH2 s2=>#[bu,λr hrn=>kq _ r ((sh.mono s2).mono (ai hrn)) ((tb.mono s2).mono (ai hrn)) ((Fz.same s2).trans (Fz.same (ai hrn))) ?_]];rw[ab];unfold lD;rw[if_neg (by rw[e];decide)];rfl
def iV(q:Shop)(j k:Nat):List Int:=if(Kyq.at_ q.slots j).isNone=true\/(Kyq.at_ q.slots k).isNone=true then[-2]else match bM q.slots j,bM q.slots k with
 |some a,some b=>[if PyData.eqv (eF a) (eF b)=true then 1 else 0]
 |_,_=>[-34]
inductive Iy(f:Shop->Nat->Nat->List Int)(vs:List V)(H:Hp)(Q:VK)(E:XK):Prop|mk(p q j k G:_)(_:vs=[.ref p,.int (j:Nat),.int (k:Nat)])(_:br G H p q)(_:bJ H)(_:∀H' r,br G H' p q->bJ H'->Fz G G H H'->H' r=some (.lst ((f q j k).map V.int))->Q (.ref r) H')
def lE(q:Shop)(k:Nat):(refOf q k=-2/\(Kyq.at_ q.slots k).isNone=true)\/(refOf q k=-34/\(Kyq.at_ q.slots k).isNone=false/\bM q.slots k=none)\/(refOf q k=0/\(Kyq.at_ q.slots k).isNone=false/\∃b,bM q.slots k=some b):=by
 unfold refOf;cases e:(Kyq.at_ q.slots k).isNone with|true=>exact .inl #[by simp,rfl]|false=>
  cases z:bM q.slots k with|none=>exact .inr (.inl #[by simp,rfl,rfl])|some b=>exact .inr (.inr #[by simp,rfl,b,rfl])
def Iz(z b:Int):(if false=true then !gZ (V.int z) [V.int z,V.int b]else gZ (V.int z) [V.int z,V.int b])=true:=by
 rw[if_neg X9];unfold gZ;rw[Y9,show gv (V.int z) (V.int z)=true by simp[gv]];exact Bool.true_or _
def IA(z a:Int):(if false=true then !gZ (V.int z) [V.int a,V.int z]else gZ (V.int z) [V.int a,V.int z])=true:=by
 rw[if_neg X9];unfold gZ;rw[Y9,Y9,show gv (V.int z) (V.int z)=true by simp[gv],Bool.true_or];exact Bool.or_true _
def SV(T:eZ mg)(N:dW K kk.N)(S:dG K kk.D)(ok:cY.Ok)(D:bI K kk.D "same" "Designs.same" (inClass (top 94) 13) ["self","j","k"])(c6:aF P w K mg base 12 kk.D "refusal" ["self","k"] (lj))
  (dE:aF P w K mg base 11 kk.N "drawing_of" ["self","k"] (mO (bJ))):aF P w K mg base 13 kk.D "same" ["self","j","k"] (Iy iV):=by
 refine D.go ["self","j","k","refusals"] S.cl λnd H vs Q E hr h=>?_;obtain⟨p,q,j,k,G,rfl,sh,tb,kq⟩:=h;obtain⟨dx,fs,n,ka,ua,bX,ea,dF,dv,bU,hp,F,hnm,hin,l8,ac,O⟩:=sh.cD;have nN:=(S.a7 "names")
 refine#[_,(aC (aR 3 (cU (aU (bq c6 (pv 0) (au (pv 1))) (bq c6 (pv 0) (au (pv 2)))))) (aM (rH (vp K) (aE T.om) (pv 3) (by with_unfolding_all rfl)) (ax (aV (au (aE T.om)))) (aM (rH (vp K) (aE T.AS) (pv 3) (by with_unfolding_all rfl)) (ax (aV (au (aE T.AS)))) (aM (aL (Ex hr.units) (bq dE (aK K (pv 0)) (au (pv 1))) (bq dE (aK K (pv 0)) (au (pv 2)))) (ax (aV (au aw))) (ax (aV (au aw))))))),?_];refine#[_,rfl,p,dx,fs,rfl,hp,F.dg,_,rfl,p,q,j,G,rfl,sh,tb,λH1 sh1 t1 f1=>?_];obtain⟨dX,fs1,n1,tI,tJ,j6,tK,tM,tN,bU,hp1,F1,dY,iU,_⟩:=sh1.cD;refine#[_,rfl,p,dX,fs1,rfl,hp1,F1.dg,_,rfl,p,q,k,G,rfl,sh1,t1,λH2 fT t2 f2=>?_];refine#[(by show 2<=sizeLine;decide),λtp htp=>?_];have s3:=ai (o:=HO.tup [V.int (refOf q j),V.int (refOf q k)]) htp;have j_:=fT.mono s3;have t3:=t2.mono s3;have f3:=(f1.trans f2).trans (Fz.same s3);have ret:∀ {H':Hp} (z:Int),br G H' p q->bJ H'->Fz G G H H'->iV q j k=[z]->∀r,H' r=none->Q (.ref r) (upd H' r (.lst [.int z])):=λ{H'} z a b c e r hr=>kq _ r (a.mono (ai hr)) (b.mono (ai hr)) (c.trans (Fz.same (ai hr))) (by rw[ab,e];rfl);refine#[_,rfl,tp,_,rfl,.inr (aI.of ab),rfl,rfl,_,rfl,bg (λh=>?_) (λh=>?_)]
 .refine#[bu,λr hr0=>ret _ j_ t3 f3 ?_ r hr0];unfold iV;rw[if_pos];rcases lE q j with⟨_,e⟩|⟨e1,_⟩|⟨e1,_⟩
  .exact .inl e
  .rcases lE q k with⟨_,e⟩|⟨e2,_⟩|⟨e2,_⟩
   .exact .inr e
   .rw[e1,e2]at h;exact absurd h (by decide+kernel)
   .rw[e1,e2]at h;exact absurd h (by decide+kernel)
  .rcases lE q k with⟨_,e⟩|⟨e2,_⟩|⟨e2,_⟩
   .exact .inr e
   .rw[e1,e2]at h;exact absurd h (by decide+kernel)
   .rw[e1,e2]at h;exact absurd h (by decide+kernel)
 .have aj:(Kyq.at_ q.slots j).isNone=false:=by
   rcases lE q j with⟨e1,_⟩|⟨_,e,_⟩|⟨_,e,_⟩
   .refine absurd ?_ h;rw[e1];exact Iz _ _
   .exact e
   .exact e
  have ak:(Kyq.at_ q.slots k).isNone=false:=by
   rcases lE q k with⟨e1,_⟩|⟨_,e,_⟩|⟨_,e,_⟩
   .refine absurd ?_ h;rw[e1];exact IA _ _
   .exact e
   .exact e
  have nn:¬((Kyq.at_ q.slots j).isNone=true\/(Kyq.at_ q.slots k).isNone=true):=by
   rw[aj,ak];simp
  refine#[_,rfl,tp,_,rfl,.inr (aI.of ab),rfl,rfl,_,rfl,bg (λh2=>?_) (λh2=>?_)]
  .refine#[bu,λr hr0=>ret _ j_ t3 f3 ?_ r hr0];unfold iV;rw[if_neg nn];rcases lE q j with⟨_,e⟩|⟨_,_,e⟩|⟨e1,_,bj,ej⟩
   .rw[aj]at e;cases e
   .rw[e]
   .rcases lE q k with⟨_,e⟩|⟨_,_,e⟩|⟨e2,_⟩
    .rw[ak]at e;cases e
    .rw[ej,e]
    .rw[e1,e2]at h2;exact absurd h2 (by decide+kernel)
  .obtain⟨bj,ej⟩:∃b,bM q.slots j=some b:=by
    rcases lE q j with⟨_,e⟩|⟨e1,_⟩|⟨_,_,e⟩
    .rw[aj]at e;cases e
    .refine absurd ?_ h2;rw[e1];exact Iz _ _
    .exact e
   obtain⟨bk,ek⟩:∃b,bM q.slots k=some b:=by
    rcases lE q k with⟨_,e⟩|⟨e1,_⟩|⟨_,_,e⟩
    .rw[ak]at e;cases e
    .refine absurd ?_ h2;rw[e1];exact IA _ _
    .exact e
   obtain⟨ou,Xp,n3,Xq,A1,SW,A2,Xr,A3,bU,hp3,F3,A4,SX,_⟩:=j_.cD;refine#[_,rfl,p,kk.D,ou,_,_,rfl,hp3,S.cl,nN,F3.names,n3,SW,_,rfl,SX,rfl,_,rfl,n3,q.slots,j,G,rfl,j_.ok,A4,l8,ac,jA l8 aj,t3,λH4 z4 s4 t4 g4 n4 wY=>?_];have tO:=br.drawn ok A4 s4 t3.bK g4 n4 j_;have f4:=f3.trans (j5 ok j_.ok A4 t3.bK s4);rw[ej]at wY;have wY:a_ (fz G H4) z4 bj:=wY;obtain⟨A5,Xs,n5,Xt,IB,SY,Xu,Xv,Xw,bU,wH,F5,wZ,S0,_⟩:=tO.cD;refine#[_,rfl,p,kk.D,A5,_,_,rfl,wH,S.cl,nN,F5.names,n5,SY,_,rfl,S0,rfl,_,rfl,n5,q.slots,k,G,rfl,tO.ok,wZ,l8,ac,jA l8 ak,t4,λH6 z6 s6 t6 g6 n6 w4=>?_];have w8:=br.drawn ok wZ s6 t4.bK g6 n6 tO;have f6:=f4.trans (j5 ok tO.ok wZ t4.bK s6);rw[ek]at w4;have w4:=a_.mono cZ w4;have S1:a_ H6 z4 bj:=wY.mono ((j4.data ok tO.ok wZ t4.bK s6).trans cZ);have fe:iV q j k=[if PyData.eqv (eF bj) (eF bk)=true then 1 else 0]:=by
    unfold iV;rw[if_neg nn,ej,ek]
   refine#[eF bj,eF bk,vY S1,vY w4,vZ _,vZ _,_,rfl,bg (λh3=>?_) (λh3=>?_)]
   .rw[if_pos h3]at fe;exact#[bu,λr hr0=>ret _ w8 t6 f6 fe r hr0]
   .rw[if_neg h3]at fe;exact#[bu,λr hr0=>ret _ w8 t6 f6 fe r hr0]
open Kyq (Slots Shop Measures)
noncomputable def kb(q:Shop):Shop×List Int:=match q.past with
 |[]=>(q,[-6])
 |l::p=>({q with slots:=l,past:=p,ahead:=q.slots::q.ahead},[((p.length:Nat):Int)])
noncomputable def ke(q:Shop):Shop×List Int:=match q.ahead with
 |[]=>(q,[-6])
 |l::a=>({q with slots:=l,past:=q.slots::q.past,ahead:=a},[((a.length:Nat):Int)])
inductive w9(f:Shop->Shop×List Int)(vs:List V)(H:Hp)(Q:VK)(E:XK):Prop|mk(p:Addr)(q:Shop)(G:Gh)(_:vs=[.ref p])(_:br G H p q)(_:bJ H)(_:∀H' r G',br G' H' p (f q).1->bJ H'->Fz G G' H H'->H' r=some (.lst ((f q).2.map V.int))->Q (.ref r) H')
theorem S2(T:eZ mg)(S:dG K kk.D)(ok:cY.Ok)(D:bI K kk.D "undo" "Designs.undo" (inClass (top 94) 4) ["self"]):aF P w K mg base 13 kk.D "undo" ["self"] (w9 kb):=by
 refine D.go ["self"] S.cl λnd H vs Q E hr h=>?_;obtain⟨p,q,G,rfl,sh,tb,kq⟩:=h;have A6:=sh;obtain⟨gk,⟨dx,fs,n,ka,ua,ks,us,hp,F,ik,iu,hn,hk,iB,hu,ow,ne⟩,fw⟩:=sh;have nN:=(S.a7 "names")
 have nK:=(S.a7 "kept")
 have nU:=(S.a7 "undone")
 have cM:=F.cM;refine#[_,(aM (aL bL (bO K T.bP (aK K (pv 0))) aw) (ax (aV (au (aE T.Ip)))) (aC (cK (c_ X4 Yk Yl fE (aK K (pv 0)) (au (aK K (pv 0))))) (aC (cj (pv 0) (pb X4 YW YX ph (aK K (pv 0))) rfl) (ax (aV (au (bO K T.bP (aK K (pv 0))))))))),?_];have lk:=iB.length;rw[Yz]at lk;have lu:=ow.length;rw[Yz]at lu;refine#[_,rfl,p,kk.D,dx,_,_,rfl,hp,S.cl,nK,F.kept,ka,ks,rfl,.inl (af.of hk),rfl,_,rfl,bV (λh=>?_) (λh=>?_)]
 .injection h with h;have e:q.past=[]:=YG.mp (by lia);refine#[bu,λr hr0=>kq _ r G ?_ (tb.mono (ai hr0)) (Fz.same (ai hr0)) ?_]
  .unfold kb;rw[e];exact A6.mono (ai hr0)
  .unfold kb;rw[e];exact ab
 .obtain⟨l,pp,ep⟩:aX λl pp=>q.past=l::pp:=by
   cases z:q.past with
   |nil=>
    rw[z]at lk;exact absurd (by rw[lk];rfl) h
   |cons l pp=>exact#[l,pp,rfl]
  rw[ep,YA]at iB;obtain⟨kg,kv,rfl,lA,hkv⟩:=Paired.mH iB;have hkv':=hkv;obtain⟨⟨n',rfl,_⟩,_,_⟩:=hkv';refine#[_,rfl,p,kk.D,dx,_,_,rfl,hp,S.cl,nU,F.undone,.inl #[rfl,_,af.of hu],_,rfl,p,kk.D,dx,_,_,rfl,hp,S.cl,nN,F.names,ua,us,_,rfl,rfl,hu,Yq (show us.length<=32 by lia) (by decide),?_];have pk:p≠ka:=λz=>by rw[z,hk]at hp;cases hp
  have pu:p≠ua:=λz=>by rw[z,hu]at hp;cases hp
  have hp1:upd H ua (.lst (us++[.ref n])) p=some (.ins kk.D dx fs):=by rw[ae pu];exact hp
  have hk1:upd H ua (.lst (us++[.ref n])) ka=some (.lst (kg++[.ref n'])):=by rw[ae ne];exact hk
  refine#[_,rfl,p,kk.D,dx,_,_,rfl,hp1,S.cl,nK,F.kept,.inl #[rfl,_,af.of hk1],ka,_,.ref n',rfl,rfl,hk1,by simp,?_];rw[YB];refine#[_,rfl,p,kk.D,dx,_,rfl,(by rw[ae pk];exact hp1),S.cl,nN,by lia,?_];have hk3:upd (upd (upd H ua (.lst (us++[.ref n]))) ka (.lst kg)) p (.ins kk.D dx (aQ "names" (.ref n') fs)) ka=some (.lst kg):=by rw[ae (Ne.symm pk)];exact ab
  have iW:upd (upd (upd H ua (.lst (us++[.ref n]))) ka (.lst kg)) p (.ins kk.D dx (aQ "names" (.ref n') fs)) ua=some (.lst (us++[.ref n])):=by rw[ae (Ne.symm pu),ae (Ne.symm ne)];exact ab
  have fr:∀b o,H b=some o->b≠ka->b≠ua->b≠p->upd (upd (upd H ua (.lst (us++[.ref n]))) ka (.lst kg)) p (.ins kk.D dx (aQ "names" (.ref n') fs)) b=some o:=λb o e h1 h2 h3=>by
   rw[ae h3,ae h1,ae h2];exact e
  have ef:kb q=({q with slots:=l,past:=pp,ahead:=q.slots::q.ahead},[((pp.length:Nat):Int)]):=by
   unfold kb;rw[ep]
  have g3:bT G (upd (upd (upd H ua (.lst (us++[.ref n]))) ka (.lst kg)) p (.ins kk.D dx (aQ "names" (.ref n') fs))):=gk.to λb xs e _=>by
   by_cases c1:b=ka
   .exact#[_,by rw[c1];exact hk3]
   by_cases c2:b=ua
   .exact#[_,by rw[c2];exact iW]
   exact#[xs,fr b _ e c1 c2 λz=>by rw[z,hp]at e;cases e]
  have⟨j_,A7⟩:br G (upd (upd (upd H ua (.lst (us++[.ref n]))) ka (.lst kg)) p (.ins kk.D dx (aQ "names" (.ref n') fs))) p (kb q).1/\Fz G G H (upd (upd (upd H ua (.lst (us++[.ref n]))) ka (.lst kg)) p (.ins kk.D dx (aQ "names" (.ref n') fs))):=by
   rw[ef];refine br.re ok gk hp ik iu fr (λ_ h=>h) (λ_ h=>.inl h) g3 ab (F.tF n') ik iu hkv hk3 lA iW ?_ ne ?_
   .show Paired _ _ (q.slots::q.ahead).reverse;rw[YA];exact Paired.snoc ow hn
   .show pp.length+(q.ahead.length+1)<=32;rw[ep,X2]at fw
    lia
  refine#[_,rfl,p,kk.D,dx,_,_,rfl,ab,S.cl,nK,(F.tF n').kept,ka,kg,rfl,.inl (af.of hk3),bu,λr hr0=>kq _ r G (j_.mono (ai hr0)) ((AR hp hk hu fr tb).mono (ai hr0)) (A7.trans (Fz.same (ai hr0))) ?_];rw[ab,ef];have e0:kg.length=pp.length:=by rw[lA.length,Yz]
  rw[e0];rfl
theorem S3(T:eZ mg)(S:dG K kk.D)(ok:cY.Ok)(D:bI K kk.D "redo" "Designs.redo" (inClass (top 94) 5) ["self"]):aF P w K mg base 13 kk.D "redo" ["self"] (w9 ke):=by
 refine D.go ["self"] S.cl λnd H vs Q E hr h=>?_;obtain⟨p,q,G,rfl,sh,tb,kq⟩:=h;have A6:=sh;obtain⟨gk,⟨dx,fs,n,ka,ua,ks,us,hp,F,ik,iu,hn,hk,iB,hu,ow,ne⟩,fw⟩:=sh;have nN:=(S.a7 "names")
 have nK:=(S.a7 "kept")
 have nU:=(S.a7 "undone")
 have cM:=F.cM;refine#[_,(aM (aL bL (bO K T.bP (aK K (pv 0))) aw) (ax (aV (au (aE T.Ip)))) (aC (cK (c_ X4 Yk Yl fE (aK K (pv 0)) (au (aK K (pv 0))))) (aC (cj (pv 0) (pb X4 YW YX ph (aK K (pv 0))) rfl) (ax (aV (au (bO K T.bP (aK K (pv 0))))))))),?_];have lk:=iB.length;rw[Yz]at lk;have lu:=ow.length;rw[Yz]at lu;refine#[_,rfl,p,kk.D,dx,_,_,rfl,hp,S.cl,nU,F.undone,ua,us,rfl,.inl (af.of hu),rfl,_,rfl,bV (λh=>?_) (λh=>?_)]
 .injection h with h;have e:q.ahead=[]:=YG.mp (by lia);refine#[bu,λr hr0=>kq _ r G ?_ (tb.mono (ai hr0)) (Fz.same (ai hr0)) ?_]
  .unfold ke;rw[e];exact A6.mono (ai hr0)
  .unfold ke;rw[e];exact ab
 .obtain⟨l,pp,ep⟩:aX λl pp=>q.ahead=l::pp:=by
   cases z:q.ahead with
   |nil=>
    rw[z]at lu;exact absurd (by rw[lu];rfl) h
   |cons l pp=>exact#[l,pp,rfl]
  rw[ep,YA]at ow;obtain⟨fU,kv,rfl,lA,hkv⟩:=Paired.mH ow;have hkv':=hkv;obtain⟨⟨n',rfl,_⟩,_,_⟩:=hkv';refine#[_,rfl,p,kk.D,dx,_,_,rfl,hp,S.cl,nK,F.kept,.inl #[rfl,_,af.of hk],_,rfl,p,kk.D,dx,_,_,rfl,hp,S.cl,nN,F.names,ka,ks,_,rfl,rfl,hk,Yq (show ks.length<=32 by lia) (by decide),?_];have pk:p≠ka:=λz=>by rw[z,hk]at hp;cases hp
  have pu:p≠ua:=λz=>by rw[z,hu]at hp;cases hp
  have hp1:upd H ka (.lst (ks++[.ref n])) p=some (.ins kk.D dx fs):=by rw[ae pk];exact hp
  have hu1:upd H ka (.lst (ks++[.ref n])) ua=some (.lst (fU++[.ref n'])):=by rw[ae (Ne.symm ne)];exact hu
  refine#[_,rfl,p,kk.D,dx,_,_,rfl,hp1,S.cl,nU,F.undone,.inl #[rfl,_,af.of hu1],ua,_,.ref n',rfl,rfl,hu1,by simp,?_];rw[YB];refine#[_,rfl,p,kk.D,dx,_,rfl,(by rw[ae pu];exact hp1),S.cl,nN,by lia,?_];have iW:upd (upd (upd H ka (.lst (ks++[.ref n]))) ua (.lst fU)) p (.ins kk.D dx (aQ "names" (.ref n') fs)) ua=some (.lst fU):=by rw[ae (Ne.symm pu)];exact ab
  have hk3:upd (upd (upd H ka (.lst (ks++[.ref n]))) ua (.lst fU)) p (.ins kk.D dx (aQ "names" (.ref n') fs)) ka=some (.lst (ks++[.ref n])):=by rw[ae (Ne.symm pk),ae ne];exact ab
  have fr:∀b o,H b=some o->b≠ka->b≠ua->b≠p->upd (upd (upd H ka (.lst (ks++[.ref n]))) ua (.lst fU)) p (.ins kk.D dx (aQ "names" (.ref n') fs)) b=some o:=λb o e h1 h2 h3=>by
   rw[ae h3,ae h2,ae h1];exact e
  have ef:ke q=({q with slots:=l,past:=q.slots::q.past,ahead:=pp},[((pp.length:Nat):Int)]):=by
   unfold ke;rw[ep]
  have g3:bT G (upd (upd (upd H ka (.lst (ks++[.ref n]))) ua (.lst fU)) p (.ins kk.D dx (aQ "names" (.ref n') fs))):=gk.to λb xs e _=>by
   by_cases c1:b=ka
   .exact#[_,by rw[c1];exact hk3]
   by_cases c2:b=ua
   .exact#[_,by rw[c2];exact iW]
   exact#[xs,fr b _ e c1 c2 λz=>by rw[z,hp]at e;cases e]
  have⟨j_,A7⟩:br G (upd (upd (upd H ka (.lst (ks++[.ref n]))) ua (.lst fU)) p (.ins kk.D dx (aQ "names" (.ref n') fs))) p (ke q).1/\Fz G G H (upd (upd (upd H ka (.lst (ks++[.ref n]))) ua (.lst fU)) p (.ins kk.D dx (aQ "names" (.ref n') fs))):=by
   rw[ef];refine br.re ok gk hp ik iu fr (λ_ h=>h) (λ_ h=>.inl h) g3 ab (F.tF n') ik iu hkv hk3 ?_ iW lA ne ?_
   .show Paired _ _ (q.slots::q.past).reverse;rw[YA];exact Paired.snoc iB hn
   .show q.past.length+1+pp.length<=32;rw[ep,X2]at fw
    lia
  refine#[_,rfl,p,kk.D,dx,_,_,rfl,ab,S.cl,nU,(F.tF n').undone,ua,fU,rfl,.inl (af.of iW),bu,λr hr0=>kq _ r G (j_.mono (ai hr0)) ((AR hp hk hu fr tb).mono (ai hr0)) (A7.trans (Fz.same (ai hr0))) ?_];rw[ab,ef];have e0:fU.length=pp.length:=by rw[lA.length,Yz]
  rw[e0];rfl
inductive A8(vs:List V)(H:Hp)(Q:VK)(E:XK):Prop|mk(p n':Addr)(q:Shop)(l:Slots)(G:Gh)(_:vs=[.ref p,.ref n'])(_:br G H p q)(_:bJ H)(_:Nm G H (.ref n') l)(_:∀H' G',br G' H' p (Kyq.changed q l)->bJ H'->Fz G G' H H'->Q .ay H')
theorem IC{u2:Addr}{fs:List (Str×V)}(ok:cY.Ok)(gk:bT G H)(hp:H p=some (.ins kk.D dx fs))(F:gE fs n ka ua)(ik:(p,ka)∈G)(iu:(p,ua)∈G)(hk:H ka=some (.lst ks))(hu:H ua=some (.lst us))(hl:Nm G H (.ref n') l)
  (pk:Paired (Nm G H) ks' (Kyq.changed q l).past.reverse) (hu2:upd H ka (.lst ks') u2=none) (tb:bJ H):
  (br ((p,u2)::G) (upd (upd (upd (upd H ka (.lst ks')) u2 (.lst [])) p (.ins kk.D dx (aQ "undone" (.ref u2) fs))) p (.ins kk.D dx (aQ "names" (.ref n') (aQ "undone" (.ref u2) fs)))) p (Kyq.changed q l)/\Fz G ((p,u2)::G) H (upd (upd (upd (upd H ka (.lst ks')) u2 (.lst [])) p (.ins kk.D dx (aQ "undone" (.ref u2) fs))) p (.ins kk.D dx (aQ "names" (.ref n') (aQ "undone" (.ref u2) fs)))))/\bJ (upd (upd (upd (upd H ka (.lst ks')) u2 (.lst [])) p (.ins kk.D dx (aQ "undone" (.ref u2) fs))) p (.ins kk.D dx (aQ "names" (.ref n') (aQ "undone" (.ref u2) fs)))):=by
 have w_:p≠ka:=λz=>by rw[z,hk]at hp;cases hp
 have A9:u2≠ka:=λz=>by rw[z,ab]at hu2;cases hu2
 have qx:H u2=none:=by rw[ae A9]at hu2;exact hu2
 have qy:u2≠p:=λz=>by rw[z,hp]at qx;cases qx
 have fr:∀b o,H b=some o->b≠ka->b≠ua->b≠p->upd (upd (upd (upd H ka (.lst ks')) u2 (.lst [])) p (.ins kk.D dx (aQ "undone" (.ref u2) fs))) p (.ins kk.D dx (aQ "names" (.ref n') (aQ "undone" (.ref u2) fs))) b=some o:=λb o e h1 h2 h3=>by
  rw[ae h3,ae h3,ae (λz=>by rw[z,qx]at e;cases e),ae h1];exact e
 have hk3:(upd (upd (upd (upd H ka (.lst ks')) u2 (.lst [])) p (.ins kk.D dx (aQ "undone" (.ref u2) fs))) p (.ins kk.D dx (aQ "names" (.ref n') (aQ "undone" (.ref u2) fs)))) ka=some (.lst ks'):=by
  rw[ae (Ne.symm w_),ae (Ne.symm w_),ae (Ne.symm A9)];exact ab
 have iW:(upd (upd (upd (upd H ka (.lst ks')) u2 (.lst [])) p (.ins kk.D dx (aQ "undone" (.ref u2) fs))) p (.ins kk.D dx (aQ "names" (.ref n') (aQ "undone" (.ref u2) fs)))) u2=some (.lst []):=by
  rw[ae qy,ae qy];exact ab
 refine#[br.re ok gk hp ik iu fr (λ_ h=>X6 _ h) (λa h=>?_) (gk.cons (λb xs e _=>?_) qx iW) ab ((F.Sw u2).tF n') (X6 _ ik) (Ym ..) hl hk3 pk iW .nil (Ne.symm A9) ?_,AR hp hk hu fr tb]
 .rcases X5.mp h with z|z
  .exact .inr (z▸qx)
  .exact .inl z
 .by_cases c1:b=ka
  .exact#[_,by rw[c1];exact hk3]
  have bp:b≠p:=λz=>by rw[z,hp]at e;cases e
  exact#[xs,by rw[ae bp,ae bp,ae (λz=>by rw[z,qx]at e;cases e),ae c1];exact e]
 .show((q.slots::q.past).take 32).length+0<=32;rw[YF]
  lia
theorem S4(T:eZ mg)(S:dG K kk.D)(ok:cY.Ok)(D:bI K kk.D "change" "Designs.change" (inClass (top 94) 1) ["self","names"]):aF P w K mg base 1 kk.D "change" ["self","names"] (A8):=by
 refine D.go ["self","names"] S.cl λnd H vs Q E hr h=>?_;obtain⟨p,n',q,l,G,rfl,sh,tb,hl,kq⟩:=h;obtain⟨gk,⟨dx,fs,n,ka,ua,ks,us,hp,F,ik,iu,hn,hk,iB,hu,ow,ne⟩,fw⟩:=sh;have nN:=(S.a7 "names")
 have nK:=(S.a7 "kept")
 have nU:=(S.a7 "undone")
 have cM:=F.cM;refine#[_,(aC (cK (c_ X4 Yk Yl fE (aK K (pv 0)) (au (aK K (pv 0))))) (aM (aL gX (bO K T.bP (aK K (pv 0))) (aE T.Sz)) (bF (cK (c_ X4 YW YX M_ (aK K (pv 0)) (au aw)))) (aC (cj (pv 0) (aV eQ) rfl) (bF (cj (pv 0) (pv 1) rfl))))),?_];have lk:=iB.length;rw[Yz]at lk;have w_:p≠ka:=λz=>by rw[z,hk]at hp;cases hp
 refine#[_,rfl,p,kk.D,dx,_,_,rfl,hp,S.cl,nK,F.kept,.inl #[rfl,_,af.of hk],_,rfl,p,kk.D,dx,_,_,rfl,hp,S.cl,nN,F.names,ka,ks,_,rfl,rfl,hk,Yq (show ks.length<=32 by lia) (by decide),?_];have hp1:∀xs,upd H ka (.lst xs) p=some (.ins kk.D dx fs):=λxs=>by rw[ae w_];exact hp
 refine#[_,rfl,p,kk.D,dx,_,_,rfl,hp1 _,S.cl,nK,F.kept,ka,_,rfl,.inl (af.of ab),_,_,rfl,rfl,_,rfl,bV (λh=>?_) (λh=>?_)]
 .rw[XY,YE]at h;obtain⟨k0,xc,rfl⟩:aX λk0 xc=>ks=k0::xc:=by
   cases z:ks with|nil=>rw[z]at h;exact absurd h (by decide)|cons a b=>exact#[a,b,rfl]
  refine#[_,rfl,p,kk.D,dx,_,_,rfl,hp1 _,S.cl,nK,F.kept,.inl #[rfl,_,af.of ab],ka,_,0,0,k0,rfl,rfl,ab,by decide,by decide,?_,rfl,?_]
  .simp[seqIndex?]
   lia
  rw[L2.d7];have pk2:Paired (Nm G H) (xc++[V.ref n]) (Kyq.changed q l).past.reverse:=by
   show Paired _ _ ((q.slots::q.past).take 32).reverse;have A_:q.past.length=32:=by
    rw[X2]at lk h
    lia
   obtain⟨pl,pz,Ba⟩:aX λpl pz=>q.past=pl++[pz]:=by
    rcases List.eq_nil_or_concat q.past with z|⟨a,b,z⟩
    .rw[z]at A_;cases A_
    .exact#[a,b,by rw[z,List.concat_eq_append]]
   have Xx:pl.length=31:=by rw[Ba,XY,YE]at A_;lia
   rw[Ba,List.reverse_append]at iB;have iB:Paired (Nm G H) (k0::xc) (pz::pl.reverse):=iB;have e:(q.slots::q.past).take 32=q.slots::pl:=by
    rw[Ba,aah,List.take_append_of_le_length (by lia),Yv (by lia)]
   rw[e,YA];cases iB with|cons r t=>exact Paired.snoc t hn
  refine#[Yg _,λu2 hu2=>?_];have qy:p≠u2:=λz=>by rw[<-z,hp1]at hu2;cases hu2
  have a1:=lg "undone" (.ref u2) fs;refine#[_,rfl,p,kk.D,dx,_,rfl,(by rw[ae qy];exact hp1 _),S.cl,nU,by lia,_,rfl,_,rfl,p,kk.D,dx,_,rfl,ab,S.cl,nN,by lia,?_];obtain⟨⟨s1,f1⟩,t1⟩:=IC ok gk hp F ik iu hk hu hl pk2 hu2 tb;exact kq _ _ s1 t1 f1
 .rw[XY,YE]at h;have pk2:Paired (Nm G H) (ks++[V.ref n]) (Kyq.changed q l).past.reverse:=by
   show Paired _ _ ((q.slots::q.past).take 32).reverse;rw[Yv (by rw[X2];lia),YA];exact Paired.snoc iB hn
  refine#[Yg _,λu2 hu2=>?_];have qy:p≠u2:=λz=>by rw[<-z,hp1]at hu2;cases hu2
  have a1:=lg "undone" (.ref u2) fs;refine#[_,rfl,p,kk.D,dx,_,rfl,(by rw[ae qy];exact hp1 _),S.cl,nU,by lia,_,rfl,_,rfl,p,kk.D,dx,_,rfl,ab,S.cl,nN,by lia,?_];obtain⟨⟨s1,f1⟩,t1⟩:=IC ok gk hp F ik iu hk hu hl pk2 hu2 tb;exact kq _ _ s1 t1 f1
def S5:∀e:Exp,0<(Kyq1.written e).length
 |.patch p=>by
  show 0<(Kyq1.patchText p).length;unfold Kyq1.patchText;split<;>simp
 |.name k=>by show 0<2;decide
 |.turn e=>Zv _
 |.mirror e=>Zv _
 |.beside x y=>Zv _
 |.above x y=>Zv _
 |.across n e=>Zv _
 |.down n e=>Zv _
theorem toks_le:∀e:Exp,(Qm.toks e).length<=(Kyq1.written e).length
 |.patch p=>S5 _
 |.name k=>by show 1<=2;decide
 |.turn e=>by have:=toks_le e;show(Qm.toks e).length+1<=(Kyq1.written e).length+1;lia
 |.mirror e=>by have:=toks_le e;show(Qm.toks e).length+1<=(Kyq1.written e).length+1;lia
 |.beside x y=>by
  have:=toks_le x;have:=toks_le y;show(Qm.toks x++Qm.toks y).length+1<=(Kyq1.written x++Kyq1.written y).length+1;rw[XY,XY]
  lia
 |.above x y=>by
  have:=toks_le x;have:=toks_le y;show(Qm.toks x++Qm.toks y).length+1<=(Kyq1.written x++Kyq1.written y).length+1;rw[XY,XY]
  lia
 |.across n e=>by have:=toks_le e;show(Qm.toks e).length+1<=(Kyq1.written e).length+1+1;lia
 |.down n e=>by have:=toks_le e;show(Qm.toks e).length+1<=(Kyq1.written e).length+1+1;lia
def itself(O:cb l)(hk:k<8):((c3 l).getD k 0).testBit k=(Kyq.uses l k).contains k:=by
 have e:(c3 l).getD k 0=fK (l.map toldOf) k:=by
  unfold c3;rw[XU,X1,Yn hk];rfl
 rw[e,Y4,zE (wV O),YV]
noncomputable def iX(q:Shop)(k:Nat)(t:List Nat):Shop×List Int:=if 7<k\/Kyq1.longest<t.length then(q,[-22])else match Kyq1.expOf t with
 |none=>(q,[-71])
 |some e=>if(Kyq.uses (q.slots.set k (some e)) k).contains k then(q,[-41])else(Kyq.changed q (q.slots.set k (some e)),[0])
inductive ID(vs:List V)(H:Hp)(Q:VK)(E:XK):Prop|mk(p:Addr)(q:Shop)(k:Nat)(wv:V)(t:List Nat)(G:Gh)(_:vs=[.ref p,.int (k:Nat),wv])(_:br G H p q)(_:bJ H)(_:dP (fz G H) wv t)(_:∀H' r G',br G' H' p (iX q k t).1->bJ H'->Fz G G' H H'->H' r=some (.lst ((iX q k t).2.map V.int))->Q (.ref r) H')
theorem S6(T:eZ mg)(N:dW K kk.N)(S:dG K kk.D)(ok:cY.Ok)(D:bI K kk.D "put" "Designs.put" (inClass (top 94) 2) ["self","k","words"])(Bb:aH P w K mg base 4 "tokens_of" ["words"] HE)(qz:aF P w K mg base 5 kk.N "with_entry" ["self","k","entry"] (AF))
  (Bc:aF P w K mg base 2 kk.N "uses_itself" ["self","k"] (HW)) (qA:aF P w K mg base 1 kk.D "change" ["self","names"] (A8)):aF P w K mg base 13 kk.D "put" ["self","k","words"] (ID):=by
 refine D.go ["self","k","words","tokens","names"] S.cl λnd H vs Q E hr h=>?_;obtain⟨p,q,k,wv,t,G,rfl,sh,tb,iw,kq⟩:=h;have IE:=iw;obtain⟨wa,rfl,fi⟩:=iw;have fi:=cZ _ _ fi;have gk:=sh.ok;obtain⟨dx,fs,n,ka,ua,bX,ea,dF,dv,bU,hp,F,hnm,hin,l8,ac,O⟩:=sh.cD;have nN:=(S.a7 "names")
 refine#[_,(aM (PW.pt (m7 (aL yh (pv 1) (aE T.jw)) (o4 (aL gX (bO K T.bP (pv 2)) (aE T.Sy))))) (ax (aV (au (aE T.qp)))) (aC (aR 3 (vA (bh Bb (au (pv 2))) (G.map Prod.snd) gk.nd)) (aM (aL jN (pv 3) b_) (ax (aV (au (aE T.SF)))) (aC (aR 4 (bq qz (aK K (pv 0)) (aU (pv 1) (cU (aU (pv 2) (pv 3)))))) (aM (e_ (bq Bc (pv 4) (au (pv 1))) (λ_=>rfl)) (ax (aV (au (aE T.SE)))) (aC (cK (bq qA (pv 0) (au (pv 4)))) (ax (aV (au aw))))))))),?_];have ret:∀ {H':Hp} {q':Shop} {G':Gh} (z:Int),br G' H' p q'->bJ H'->Fz G G' H H'->iX q k t=(q',[z])->∀r,H' r=none->Q (.ref r) (upd H' r (.lst [.int z])):=λ{H' q' G'} z a b c e r hr=>kq _ r G' (by rw[e];exact a.mono (ai hr)) (b.mono (ai hr)) (c.trans (Fz.same (ai hr))) (by rw[ab,e];rfl);have bad:7<k\/200<t.length->iX q k t=(q,[-22]):=λh=>by
  unfold iX;rw[if_pos (by unfold Kyq1.longest;exact h)]
 refine#[_,rfl,_,_,rfl,rfl,_,rfl,bV (λh=>?_) (λh=>?_)]
 .exact jj #[bu,λr hr0=>ret _ sh tb (Fz.refl _) (bad (.inl (by lia))) r hr0]
 .refine#[_,rfl,wa,_,rfl,.inl (af.of fi),_,_,rfl,rfl,_,rfl,bV (λh2=>?_) (λh2=>?_)]
  .rw[XX]at h2;exact#[bu,λr hr0=>ret _ sh tb (Fz.refl _) (bad (.inr (by lia))) r hr0]
  rw[XX]at h2;have k8:k<8:=by lia
  have ef:iX q k t=match Kyq1.expOf t with
   |none=>(q,[-71])
   |some e=>if(Kyq.uses (q.slots.set k (some e)) k).contains k then(q,[-41])else(Kyq.changed q (q.slots.set k (some e)),[0]):=by
   unfold iX;rw[if_neg (by unfold Kyq1.longest;lia)]
  refine#[gk.at_,_,rfl,_,t,rfl,IE.mono (HV gk),by lia,λH0 u s0 iu nn=>?_];rw[PX]at iu;have s1:ag H (cV (G.map Prod.snd) H H0):=λb o e=>by
   by_cases c:b∈G.map Prod.snd
   .rw[mj c];exact e
   .rw[jS c];exact s0 _ _ (by rw[dC c];exact e)
  have s0:=jy (G:=[]) (G':=G) (H:=H0) (H':=cV (G.map Prod.snd) H H0) (λb o e=>by rw[jS λc=>by have z:=nn b c;rw[(dQ e).1]at z;cases z];exact(dQ e).1) λa h=>.inr (nn a h);generalize cV (G.map Prod.snd) H H0=H1 at s1 s0;refine#[_,rfl,rfl,_,rfl,bV (λh3=>?_) (λh3=>?_)]
  .cases e:Kyq1.expOf t with
   |none=>
    rw[e]at ef;exact#[bu,λr hr0=>ret _ (sh.mono s1) (tb.mono s1) (Fz.same s1) ef r hr0]
   |some x=>
    rw[e,h3]at iu;obtain⟨_,_,z,_⟩:=iu;cases z
  .cases e:Kyq1.expOf t with
   |none=>
    rw[e]at iu;exact absurd iu h3
   |some x=>
    rw[e]at iu ef;have iu:ig (fz G H1) u (Qm.toks x):=(ig.fz iu).mono s0;have ef:iX q k t=if(Kyq.uses (q.slots.set k (some x)) k).contains k then(q,[-41])else(Kyq.changed q (q.slots.set k (some x)),[0]):=ef
    obtain⟨okx,IF⟩:=rZ.mp e;have tl:=toks_le x;rw[<-IF]at tl;refine#[_,rfl,p,kk.D,dx,_,_,rfl,s1 _ _ hp,S.cl,nN,F.names,n,bX,_,rfl,s1 _ _ hin,rfl,_,rfl,_,rfl,_,rfl,(by show 2<=sizeLine;decide),λtp htp=>?_];have s2:=s1.trans (ai (o:=HO.tup [V.ref wa,u]) htp);refine#[n,q.slots,k,.ref tp,some x,G,rfl,gk.mono s2,hnm.mono s2,l8,k8,#[okx,by lia,tp,_,_,rfl,mM ab,by rw[<-IF];exact IE.mono (iR s2),iu.mono (iR (ai htp))],λH3 n3 Bd s3 S7 tP g3 na3=>?_];have mK:=s2.trans s3;have oz:H Bd=none:=Ye.mpr λo e=>by rw[s2 _ _ e]at tP;cases tP
    have IG:(q.slots.set k (some x)).length=8:=by rw[ZR];exact l8
    have Be:uz λou A2 A1 A3 IH=>H3 n3=some (.ins kk.N ou (nf A2 A1 A3 IH)):=by obtain⟨a,b,c,d,e,_,f⟩:=na3;exact#[a,b,c,d,e,f]
    obtain⟨ou,A2,A1,A3,IH,Be⟩:=Be;have O3:cb (q.slots.set k (some x)):=by
     obtain⟨_,_,_,_,_,_,_,_,_,ie,_⟩:=na3;exact AL ie IG
    refine#[_,rfl,n3,ou,_,rfl,Be,rfl,_,rfl,n3,_,k,_,rfl,na3,k8,λH4 s4=>?_];rw[itself O3 k8];have oA:=mK.trans s4;refine#[_,rfl,bg (λh4=>?_) (λh4=>?_)]
    .rw[if_pos h4]at ef;exact#[bu,λr hr0=>ret _ (sh.grow oA oz (g3.mono s4)) (tb.mono oA) (Fz.cons oA oz) ef r hr0]
    .rw[if_neg h4]at ef;have S8:Qm.Acyclic (q.slots.set k (some x)):=P6 (λi hi=>Gn hi) ac λz=>h4 (by rw[YV];exact z);refine#[_,rfl,p,dx,fs,rfl,oA _ _ hp,F.dg,_,rfl,p,n3,q,_,_,rfl,sh.grow oA oz (g3.mono s4),tb.mono oA,#[#[n3,rfl,na3.mono s4],IG,S8],λH5 G5 Bf t5 f5=>?_];exact#[bu,λr hr0=>ret _ Bf t5 ((Fz.cons oA oz).trans f5) ef r hr0]
noncomputable def jB(q:Shop)(k:Nat):Shop×List Int:=if(Kyq.at_ q.slots k).isNone=true then(q,[-2])else if((cO q.slots k 8:Nat):Int)≠0 then(q,[-35])else(Kyq.changed q (q.slots.set k none),[0])
inductive II(f:Shop->Nat->Shop×List Int)(vs:List V)(H:Hp)(Q:VK)(E:XK):Prop|mk(p:Addr)(q:Shop)(k:Nat)(G:Gh)(_:vs=[.ref p,.int (k:Nat)])(_:br G H p q)(_:bJ H)(_:∀H' r G',br G' H' p (f q k).1->bJ H'->Fz G G' H H'->H' r=some (.lst ((f q k).2.map V.int))->Q (.ref r) H')
def S9(T:eZ mg)(N:dW K kk.N)(S:dG K kk.D)(ok:cY.Ok)(D:bI K kk.D "drop" "Designs.drop" (inClass (top 94) 3) ["self","k"])(gd:aF P w K mg base 1 kk.N "stands" ["self","k"] (qi))(qw:aF P w K mg base 2 kk.N "users_of" ["self","k"] (AG))(qz:aF P w K mg base 5 kk.N "with_entry" ["self","k","entry"] (AF))
  (qA:aF P w K mg base 1 kk.D "change" ["self","names"] (A8)):aF P w K mg base 13 kk.D "drop" ["self","k"] (II jB):=by
 refine D.go ["self","k"] S.cl λnd H vs Q E hr h=>?_;obtain⟨p,q,k,G,rfl,sh,tb,kq⟩:=h;obtain⟨dx,fs,n,ka,ua,bX,ea,dF,dv,bU,hp,F,hnm,hin,l8,ac,O⟩:=sh.cD;have nN:=(S.a7 "names")
 refine#[_,(aM (iG (e_ (bq gd (aK K (pv 0)) (au (pv 1))) (λ_=>rfl))) (ax (aV (au (aE T.om)))) (aM (aL uR (bq qw (aK K (pv 0)) (au (pv 1))) aw) (ax (aV (au (aE T.SA)))) (aC (cK (bq qA (pv 0) (au (bq qz (aK K (pv 0)) (aU (pv 1) b_))))) (ax (aV (au aw)))))),?_];have ret:∀ {H':Hp} {q':Shop} {G':Gh} (z:Int),br G' H' p q'->bJ H'->Fz G G' H H'->jB q k=(q',[z])->∀r,H' r=none->Q (.ref r) (upd H' r (.lst [.int z])):=λ{H' q' G'} z a b c e r hr=>kq _ r G' (by rw[e];exact a.mono (ai hr)) (b.mono (ai hr)) (c.trans (Fz.same (ai hr))) (by rw[ab,e];rfl);refine#[_,rfl,p,kk.D,dx,_,_,rfl,hp,S.cl,nN,F.names,n,bX,_,rfl,hin,rfl,_,rfl,n,q.slots,k,G,rfl,hnm,l8,_,rfl,bg (λh=>?_) (λh=>?_)]
 .have e:(Kyq.at_ q.slots k).isNone=true:=by
   cases z:Kyq.at_ q.slots k with|none=>rfl|some e=>rw[z]at h;cases h
  have ef:jB q k=(q,[-2]):=by unfold jB;rw[if_pos e]
  exact#[bu,λr hr0=>ret _ sh tb (Fz.refl _) ef r hr0]
 .have e:(Kyq.at_ q.slots k).isNone=false:=by
   cases z:Kyq.at_ q.slots k with|none=>rw[z]at h;exact absurd rfl h|some e=>rfl
  have e0:jB q k=if((cO q.slots k 8:Nat):Int)≠0 then(q,[-35])else(Kyq.changed q (q.slots.set k none),[0]):=by
   unfold jB;rw[if_neg (by rw[e];decide)]
  have k8:=jA l8 e;refine#[_,rfl,p,kk.D,dx,_,_,rfl,hp,S.cl,nN,F.names,n,bX,_,rfl,hin,rfl,_,rfl,n,q.slots,k,G,rfl,hnm,λH1 s1=>?_];refine#[rfl,_,rfl,bg (λh2=>?_) (λh2=>?_)]
  .have h2:¬((cO q.slots k 8:Nat):Int)=0:=λz=>by rw[z]at h2;exact absurd h2 (by decide+kernel)
   rw[if_pos h2]at e0;exact#[bu,λr hr0=>ret _ (sh.mono s1) (tb.mono s1) (Fz.same s1) e0 r hr0]
  .have h2:((cO q.slots k 8:Nat):Int)=0:=by
    by_cases z:V.int ((cO q.slots k 8:Nat):Int)=V.int 0
    .injection z
    .exact absurd (by simpa using z) h2
   rw[if_neg (λz=>z h2)]at e0;refine#[_,rfl,p,dx,fs,rfl,s1 _ _ hp,F.dg,_,rfl,p,kk.D,dx,_,_,rfl,s1 _ _ hp,S.cl,nN,F.names,n,bX,_,rfl,s1 _ _ hin,rfl,_,rfl,n,q.slots,k,.ay,none,G,rfl,sh.ok.mono s1,hnm.mono s1,l8,k8,rfl,λH3 n3 Bd s3 S7 tP g3 na3=>?_];have mK:=s1.trans s3;have oz:H Bd=none:=Ye.mpr λo e=>by rw[s1 _ _ e]at tP;cases tP
   have S_:Qm.Acyclic (q.slots.set k none):=P7 (λi j hj=>P8 hj) ac;refine#[p,n3,q,_,_,rfl,sh.grow mK oz g3,tb.mono mK,#[#[n3,rfl,na3],by rw[ZR];exact l8,S_],λH5 G5 Bf t5 f5=>?_];exact#[bu,λr hr0=>ret _ Bf t5 ((Fz.cons mK oz).trans f5) e0 r hr0]
def told(a:Kyq.Ans):List Int:=a.value::KyqNeutral.ints a.out
def oB(O:cb q.slots)(k:Nat){f:Kyq1.Block->Kyq.Ans}{g:Rows->List Int}(h:∀b,aZ b->told (f (Qm.aq b))=g b):told (Kyq.ofName q k f)=fR q k g:=by
 unfold Kyq.ofName fR;by_cases e:(Kyq.at_ q.slots k).isNone=true
 .rw[if_pos e,if_pos e];rfl
 .rw[if_neg e,if_neg e,vN O];cases z:bM q.slots k with|none=>rfl|some b=>exact h b (jW O z)
def Ta(O:cb q.slots)(k:Nat):told (Kyq.ofName q k λb=>#[(b.h:Nat),[b.w]])=qr q k:=oB O k λb _=>rfl
def Tb(O:cb q.slots)(k:Nat):told (Kyq.ofName q k λb=>#[(b.h:Nat),b.w::b.cells.flatMap Kyq.patchNumbers])=qv q k:=oB O k λb _=>rfl
theorem foldl_add:∀(l:List Nat) (a:Nat),l.foldl (·+·) a=a+l.foldl (·+·) 0
 |[],a=>rfl
 |x::l,a=>by
  rw[YM,YM,foldl_add l (a+x),foldl_add l (0+x)]
  lia
def Bg(p:Patch)(c:Nat):Nat:=(if p.a=c then 1 else 0)+(if p.b=c then 1 else 0)
theorem IJ{l:List Nat}{c:Nat}(hl:l.length=9)(h1:1<=c)(h9:c<=9):(jt l c).getD i 0=l.getD i 0+if c=i+1 then 1 else 0:=by
 unfold jt;rw[XU,XU,XU];by_cases e:c-1=i
 .rw[e,Zm (by lia),if_pos (by lia)];rfl
 .rw[Zf e,if_neg (by lia)];rfl
theorem IK:∀(ps:List Patch) (l:List Nat),l.length=9->(∀p∈ps,1<=p.a/\p.a<=9/\1<=p.b/\p.b<=9)->∀i,(ps.foldl kY l).getD i 0=l.getD i 0+(ps.map λp=>Bg p (i+1)).foldl (·+·) 0
 |[],l,_,_,i=>rfl
 |p::ps,l,hl,h,i=>by
  obtain⟨a1,a9,b1,b9⟩:=h p (by simp);have hl1:(jt l p.a).length=9:=by unfold jt;rw[ZR];exact hl
  have hl2:(kY l p).length=9:=by rw[Hu];exact hl
  rw[YM,IK ps _ hl2 (λq hq=>h q (by simp[hq])),X7,YM,foldl_add _ (0+Bg p (i+1))];unfold kY;rw[IJ hl1 b1 b9,IJ hl a1 a9];unfold Bg
  lia
def Td(h:∀p∈b.flatten,1<=p.a/\p.a<=9/\1<=p.b/\p.b<=9):(List.range 9).map (λc=>Kyq1.halves (Qm.aq b) (c+1))=halves b.flatten:=by
 apply YQ
 .rw[XX,Zq];exact(sO _ _ rfl).symm
 .intro i h1 h2;rw[aay,List.getElem_range];have e:=IK b.flatten (List.replicate 9 0) rfl h i;have e2:(halves b.flatten).getD i 0=(halves b.flatten)[i]:=by rw[XU,XT h2];rfl
  rw[<-e2];show _=(b.flatten.foldl kY (List.replicate 9 0)).getD i 0;rw[e];have e3:(List.replicate 9 (0:Nat)).getD i 0=0:=by
   rw[XU,Y2];split<;>rfl
  rw[e3,Zh];rfl
def Te(O:cb q.slots)(k:Nat):told (Kyq.ofName q k λb=>#[((Kyq1.fixing b).length:Nat),[Kyq1.bitsOf (Kyq1.fixing b)]])=qu q k:=oB O k λb fb=>by
 rw[Ri fb,Gm (Rh b)];rfl
def Tf(O:cb q.slots)(k:Nat):told (Kyq.ofName q k λb=>#[0,(List.range 9).map λc=>Kyq1.halves b (c+1)])=qt q k:=oB O k λb fb=>by
 rw[Td (b:=b) λp hp=>by
  obtain⟨row,hr,hp⟩:=aaB.mp hp;obtain⟨a1,a2,b1,b2,_⟩:=Qm.kM (fb.ok row hr p hp);exact#[a1,a2,b1,b2]]
 rfl
def Tg(q:Shop)(k:Nat):told (match Kyq.at_ q.slots k with|none=>Kyq.say (-2)|some e=>#[((Kyq1.written e).length:Nat),Kyq1.written e])=lB q k:=by
 unfold lB;cases Kyq.at_ q.slots k<;>rfl
def IL(hk:k<8):(c3 l).getD k 0=fK (l.map toldOf) k:=by
 unfold c3;rw[XU,X1,Yn hk];rfl
def Th(O:cb q.slots)(k:Nat):told (if(Kyq.at_ q.slots k).isNone then Kyq.say (-2)else Kyq.say (Kyq1.bitsOf (Kyq.uses q.slots k):Nat))=lC q k:=by
 unfold lC;by_cases e:(Kyq.at_ q.slots k).isNone=true
 .rw[if_pos e,if_pos e];rfl
 .rw[if_neg e,if_neg e,P4 (wV O),IL (jA O.len (by cases q0:(Kyq.at_ q.slots k).isNone with|true=>exact absurd q0 e|false=>rfl))];rfl
theorem Bh(l:Slots)(k:Nat):∀n,cO l k n<2^n/\∀i,(cO l k n).testBit i=(decide (i<n)&&((c3 l).getD i 0).testBit k)
 |0=>#[by show 0<1;decide,λi=>by show(0:Nat).testBit i=_;simp]
 |n+1=>by
  obtain⟨lt,bt⟩:=Bh l k n;have e:cO l k (n+1)=if((c3 l).getD n 0).testBit k=true then cO l k n|||1<<<n else cO l k n:=by
   unfold cO;rw[qc]
  have l1:cO l k n<2^(n+1):=by rw[Nat.pow_succ];lia
  rw[e];by_cases c:((c3 l).getD n 0).testBit k=true
  .rw[if_pos c];refine#[Nat.or_lt_two_pow l1 ?_,λi=>?_]
   .rw[Z3];exact Nat.pow_lt_pow_succ (by decide)
   .rw[ZF,bt,zI];by_cases q:i=n
    .subst q;rw[c];simp
    .rw[Yh q,Bool.or_false];by_cases z:i<n
     .rw[Yc z,Yc (show i<n+1 by lia)]
     .rw[Yh z,Yh (show ¬i<n+1 by lia)]
  .rw[if_neg c];refine#[l1,λi=>?_];rw[bt];by_cases q:i=n
   .subst q;cases z:((c3 l).getD i 0).testBit k with|true=>exact absurd z c|false=>simp
   .by_cases z:i<n
    .rw[Yc z,Yc (show i<n+1 by lia)]
    .rw[Yh z,Yh (show ¬i<n+1 by lia)]
def IM(O:cb l)(k:Nat):Kyq.users l k=f9 (cO l k 8):=by
 unfold Kyq.users f9;apply Y3;intro j hj;have j8:=Yb.mp hj;rw[(Bh l k 8).2,Yc j8,Bool.true_and,IL j8,Y4,YV,zE (wV O)]
def IP(O:cb l)(k:Nat):Kyq1.bitsOf (Kyq.users l k)=cO l k 8:=by
 rw[IM O,Gm (Bh l k 8).1]
def Ti(O:cb q.slots)(k:Nat):told (if(Kyq.at_ q.slots k).isNone then Kyq.say (-2)else Kyq.say (Kyq1.bitsOf (Kyq.users q.slots k):Nat))=lD q k:=by
 unfold lD;by_cases e:(Kyq.at_ q.slots k).isNone=true
 .rw[if_pos e,if_pos e];rfl
 .rw[if_neg e,if_neg e,IP O];rfl
theorem IQ(O:cb l)(k:Nat):(Kyq.users l k).isEmpty=false↔((cO l k 8:Nat):Int)≠0:=by
 have e:=IP O k;constructor
 .intro h z;have z:cO l k 8=0:=by lia
  rw[IM O,z]at h;exact absurd h (by decide)
 .intro h;cases q:Kyq.users l k with
  |nil=>
   rw[q]at e;have e:0=cO l k 8:=e
   lia
  |cons a b=>rfl
def Tj(O:cb q.slots)(j k:Nat):told (if(Kyq.at_ q.slots j).isNone\/(Kyq.at_ q.slots k).isNone then Kyq.say (-2)else match Kyq.drawn q.slots j,Kyq.drawn q.slots k with
  |some a,some b=>Kyq.say (if Kyq1.same a b then 1 else 0)
  |_,_=>Kyq.say (-34))=iV q j k:=by
 unfold iV;by_cases e:(Kyq.at_ q.slots j).isNone=true\/(Kyq.at_ q.slots k).isNone=true
 .rw[if_pos e,if_pos e];rfl
 .rw[if_neg e,if_neg e,vN O,vN O];cases zj:bM q.slots j with|none=>rfl|some a=>
   cases zk:bM q.slots k with|none=>rfl|some b=>
    show[if Kyq1.same (Qm.aq a) (Qm.aq b)=true then(1:Int)else 0]=[if PyData.eqv (eF a) (eF b)=true then(1:Int)else 0];have h1:=zv (zG O zj) (zG O zk);have h2:=Af a b;by_cases c:a=b
    .rw[if_pos (h1.mpr c),if_pos (h2.mpr c)]
    .rw[if_neg (λz=>c (h1.mp z)),if_neg (λz=>c (h2.mp z))]
open Kyq1 (Patch Exp)
open Kyq2 (Rect)
structure gH(mg:ZQ):Prop extends Glob mg where
 IS:mg "min"=none
 oC:a8 mg "TOP" 0
 oE:a8 mg "LEFT" 1
 lF:a8 mg "ROWS" 2
 kh:a8 mg "COLUMNS" 3
 Bj:a8 mg "NO_SEAM" 0
 xf:a8 mg "UPRIGHT" 1
 Tn:a8 mg "LEVEL" 2
inductive To(H:Hp)(v:V)(L:List Rect):Prop|mk(a vs:_)(_:v=.ref a)(_:H a=some (.lst vs))(_:Paired (c5 H) vs L)
inductive IsPair(H:Hp)(v:V)(x:Nat×Nat):Prop|mk(a:_)(_:v=.ref a)(_:H a=some (.tup [.int (x.1:Nat),.int (x.2:Nat)]))
inductive Tp(H:Hp)(v:V)(L:List (Nat×Nat)):Prop|mk(a vs:_)(_:v=.ref a)(_:H a=some (.lst vs))(_:Paired (IsPair H) vs L)
def IsPair.mono{x:Nat×Nat}(s:ag H H')(h:IsPair H v x):IsPair H' v x:=let⟨a,e,k⟩:=h;#[a,e,s _ _ k]
inductive lG(H:Hp)(v:V)(x:Kyq2.Best):Prop|mk(a:_)(_:v=.ref a)(_:H a=some (.tup ((gz x).map λn=>V.int (n:Nat))))
def lG.mono{x:Kyq2.Best}(s:ag H H')(h:lG H v x):lG H' v x:=let⟨a,e,k⟩:=h;#[a,e,s _ _ k]
def keyOf(q:Rect):List Key:=[.inl (q.r:Nat),.inl (q.c:Nat),.inl (q.h:Nat),.inl (q.w:Nat)]
inductive lH(b:Kyq1.Block)(H:Hp)(kvs:List (List Key×V))(q:Rect):Prop|mk(u:_)(_:bN kvs (keyOf q)=some u)(_:lG H u (Qm.bestAt b q))
abbrev Bk:Sp:=js a_ c5 (λb q=>Qm.Good b/\Qm.inside (Qm.aq b) q) de (λb q=>Qm.at2 b q.r q.c)
theorem Tq(T:gH mg)(D:bx K mg "first_patch" (top 9) ["block","area"]):aH P w K mg base 1 "first_patch" ["block","area"] Bk:=by
 refine D.go ["block","area"] λnd H vs Q E hr h=>?_;obtain⟨v,b,u,q,rfl,⟨bA,vs,rfl,hb,pr⟩,⟨a,rfl,ha⟩,⟨g,i1,i2,i3,i4⟩,k⟩:=h;refine#[_,(ax (a0 K (a0 K (pv 0) (bE K (pv 1) (aE T.oC))) (bE K (pv 1) (aE T.oE)))),?_];have hr1:q.r<b.length:=by have e:(Qm.aq b).h=b.length:=rfl;lia
 obtain⟨row,hrow⟩:∃row,b[q.r]?=some row:=#[_,XT hr1]
 obtain⟨z,hz,ra,ws,rfl,hra,hX⟩:=Paired.get pr hrow;have hc:q.c<row.length:=by
  rw[g.row row (X_ hrow)];have e:(Qm.aq b).w=Qm.width b:=rfl
  lia
 obtain⟨pz,hp,ip⟩:=Paired.get hX (XT hc);refine#[_,rfl,_,rfl,a,_,_,_,rfl,rfl,aI.of ha,rfl,bA,vs,_,_,rfl,rfl,af.of hb,cB hz,_,rfl,a,_,_,_,rfl,rfl,aI.of ha,rfl,ra,ws,_,pz,rfl,rfl,af.of hra,cB hp,k _ _ (ag.refl _) ?_];show de H pz ((b.getD q.r []).getD q.c Kyq1.bare);rw[XU (l:=b),hrow,aaz,XU,XT hc];exact ip
inductive IT(vs:List V)(H:Hp)(Q:VK)(E:XK):Prop|mk(v q m:_)(_:vs=[v,.int (m:Nat)])(_:c5 H v q)(_:Q (.int ((if m=1 then q.h else q.w:Nat):Int)) H)
theorem qB(h:(decide (V.int (m:Nat)=V.int 1))=true):m=1:=by
 have h:V.int (m:Nat)=V.int 1:=Yi h;injection h with h
 lia
def qC(h:¬(decide (V.int (m:Nat)=V.int 1))=true):¬m=1:=λz=>h (by rw[z];rfl)
def Tr(T:gH mg)(D:bx K mg "seam_length" (top 12) ["area","way"]):aH P w K mg base 1 "seam_length" ["area","way"] IT:=by
 refine D.go ["area","way"] λnd H vs Q E hr h=>?_;obtain⟨v,q,m,rfl,⟨a,rfl,ha⟩,k⟩:=h;refine#[_,(aM (aL bL (pv 1) (aE T.xf)) (ax (bE K (pv 0) (aE T.lF))) (ax (bE K (pv 0) (aE T.kh)))),?_];refine#[_,rfl,rfl,_,rfl,bg (λh=>?_) (λh=>?_)]
 .rw[if_pos (qB h)]at k;exact#[_,rfl,a,_,_,_,rfl,rfl,aI.of ha,rfl,k]
 .rw[if_neg (qC h)]at k;exact#[_,rfl,a,_,_,_,rfl,rfl,aI.of ha,rfl,k]
inductive qD(f:Rect->Nat->Nat->Rect)(vs:List V)(H:Hp)(Q:VK)(E:XK):Prop|mk(v q m n:_)(_:vs=[v,.int (m:Nat),.int (n:Nat)])(_:c5 H v q)(_:(if m=1 then n<=q.w else n<=q.h))(_:∀H' z,ag H H'->c5 H' z (f q m n)->Q z H')
def Ts(T:gH mg)(D:bx K mg "first_part" (top 13) ["area","way","k"]):aH P w K mg base 1 "first_part" ["area","way","k"] (qD fL):=by
 refine D.go ["area","way","k"] λnd H vs Q E hr h=>?_;obtain⟨v,q,m,n,rfl,⟨a,rfl,ha⟩,hn,k⟩:=h;refine#[_,(aM (aL bL (pv 1) (aE T.xf)) (ax (cU (bC (bE K (pv 0) (aE T.oC)) (bC (bE K (pv 0) (aE T.oE)) (aU (bE K (pv 0) (aE T.lF)) (pv 2)))))) (ax (cU (bC (bE K (pv 0) (aE T.oC)) (bC (bE K (pv 0) (aE T.oE)) (aU (pv 2) (bE K (pv 0) (aE T.kh)))))))),?_];refine#[_,rfl,rfl,_,rfl,bg (λh=>?_) (λh=>?_)]
 .refine#[_,rfl,a,_,_,_,rfl,rfl,aI.of ha,rfl,_,rfl,a,_,_,_,rfl,rfl,aI.of ha,rfl,_,rfl,a,_,_,_,rfl,rfl,aI.of ha,rfl,_,rfl,(by show 4<=sizeLine;decide),λt ht=>k _ _ (ai ht) #[t,rfl,?_]];rw[ab,qB h];rfl
 .refine#[_,rfl,a,_,_,_,rfl,rfl,aI.of ha,rfl,_,rfl,a,_,_,_,rfl,rfl,aI.of ha,rfl,_,rfl,_,rfl,a,_,_,_,rfl,rfl,aI.of ha,rfl,(by show 4<=sizeLine;decide),λt ht=>k _ _ (ai ht) #[t,rfl,?_]];rw[ab];unfold fL;rw[if_neg (qC h)];rfl
theorem Tt(T:gH mg)(D:bx K mg "second_part" (top 14) ["area","way","k"]):aH P w K mg base 1 "second_part" ["area","way","k"] (qD fM):=by
 refine D.go ["area","way","k"] λnd H vs Q E hr h=>?_;obtain⟨v,q,m,n,rfl,⟨a,rfl,ha⟩,hn,k⟩:=h;refine#[_,(aM (aL bL (pv 1) (aE T.xf)) (ax (cU (bC (bE K (pv 0) (aE T.oC)) (bC (aO bS (bE K (pv 0) (aE T.oE)) (pv 2)) (aU (bE K (pv 0) (aE T.lF)) (aO dM (bE K (pv 0) (aE T.kh)) (pv 2))))))) (ax (cU (bC (aO bS (bE K (pv 0) (aE T.oC)) (pv 2)) (bC (bE K (pv 0) (aE T.oE)) (aU (aO dM (bE K (pv 0) (aE T.lF)) (pv 2)) (bE K (pv 0) (aE T.kh)))))))),?_];refine#[_,rfl,rfl,_,rfl,bg (λh=>?_) (λh=>?_)]
 .rw[if_pos (qB h)]at hn;refine#[_,rfl,a,_,_,_,rfl,rfl,aI.of ha,rfl,_,rfl,a,_,_,_,rfl,rfl,aI.of ha,rfl,_,rfl,_,_,rfl,rfl,_,rfl,a,_,_,_,rfl,rfl,aI.of ha,rfl,_,rfl,a,_,_,_,rfl,rfl,aI.of ha,rfl,_,rfl,_,_,rfl,rfl,(by show 4<=sizeLine;decide),λt ht=>k _ _ (ai ht) #[t,rfl,?_]];rw[ab,qB h];show some (HO.tup [V.int _,V.int ((q.c:Int)+(n:Int)),V.int _,V.int ((q.w:Int)-(n:Int))])=some (HO.tup [V.int _,V.int ((q.c+n:Nat):Int),V.int _,V.int ((q.w-n:Nat):Int)]);rw[show(q.c:Int)+(n:Int)=((q.c+n:Nat):Int) by lia,show(q.w:Int)-(n:Int)=((q.w-n:Nat):Int) by lia];rfl
 .rw[if_neg (qC h)]at hn;refine#[_,rfl,a,_,_,_,rfl,rfl,aI.of ha,rfl,_,rfl,_,_,rfl,rfl,_,rfl,a,_,_,_,rfl,rfl,aI.of ha,rfl,_,rfl,a,_,_,_,rfl,rfl,aI.of ha,rfl,_,rfl,_,_,rfl,rfl,_,rfl,a,_,_,_,rfl,rfl,aI.of ha,rfl,(by show 4<=sizeLine;decide),λt ht=>k _ _ (ai ht) #[t,rfl,?_]];rw[ab];unfold fM;rw[if_neg (qC h)];show some (HO.tup [V.int ((q.r:Int)+(n:Int)),V.int _,V.int ((q.h:Int)-(n:Int)),V.int _])=some (HO.tup [V.int ((q.r+n:Nat):Int),V.int _,V.int ((q.h-n:Nat):Int),V.int _]);rw[show(q.r:Int)+(n:Int)=((q.r+n:Nat):Int) by lia,show(q.h:Int)-(n:Int)=((q.h-n:Nat):Int) by lia];rfl
def Bl(b:Kyq1.Block)(q:Rect)(m n:Nat):Kyq2.Best:=if m=1 then mz (Qm.bestAt b) q n else mB (Qm.bestAt b) q n
inductive IU(vs:List V)(H:Hp)(Q:VK)(E:XK):Prop|mk(v q m n d kvs b:_)(_:vs=[v,.int (m:Nat),.int (n:Nat),.ref d])(_:c5 H v q)(_:(m=1\/m=2))(_:(if m=1 then n<=q.w else n<=q.h))(_:H d=some (.dT kvs))(_:lH b H kvs (fL q m n))(_:lH b H kvs (fM q m n))(_:∀H' z,ag H H'->lG H' z (Bl b q m n)->Q z H')
theorem Tu(T:gH mg)(D:bx K mg "choice_with" (top 15) ["area","way","k","chosen"])(qE:aH P w K mg base 1 "first_part" ["area","way","k"] (qD fL))(qF:aH P w K mg base 1 "second_part" ["area","way","k"] (qD fM))
  (Bm:aH P w K mg base 1 "seam_length" ["area","way"] IT):aH P w K mg base 2 "choice_with" ["area","way","k","chosen"] IU:=by
 refine D.go ["area","way","k","chosen","first","second","seams","length"] λnd H vs Q E hr h=>?_;obtain⟨v,q,m,n,d,kvs,b,rfl,ia,hm,hn,hd,⟨u1,e1,i1⟩,⟨u2,e2,i2⟩,k⟩:=h;have hu:=y4 hr;refine#[_,(aC (aR 4 (yW hu (pv 3) (bh qE (bC (pv 0) (aU (pv 1) (pv 2)))) (λ_ _=>rfl))) (aC (aR 5 (yW hu (pv 3) (bh qF (bC (pv 0) (aU (pv 1) (pv 2)))) (λ_ _=>rfl))) (aC (aR 6 (aO bS (aO bS aw (bE K (pv 4) aw)) (bE K (pv 5) aw))) (aC (aR 7 (aO bS (aO bS (bh Bm (aU (pv 0) (pv 1))) (bE K (pv 4) aw)) (bE K (pv 5) aw))) (ax (cU (bC (pv 6) (bC (pv 7) (aU (pv 1) (pv 2)))))))))),?_];refine#[_,rfl,_,rfl,_,rfl,_,rfl,v,q,m,n,rfl,ia,hn,λH1 z1 s1 ⟨a1,Tv,hz1⟩=>?_];subst Tv;refine#[d,u1,rfl,by rw[<-e1];exact ma.t (s1 _ _ hd) hz1,?_];refine#[_,rfl,_,rfl,_,rfl,_,rfl,v,q,m,n,rfl,ia.mono s1,hn,λH2 z2 s2 ⟨a2,Tw,hz2⟩=>?_];subst Tw;have s12:=s1.trans s2;refine#[d,u2,rfl,by rw[<-e2];exact ma.t (s12 _ _ hd) hz2,?_];obtain⟨c1,rfl,h1⟩:=i1.mono s12;obtain⟨c2,rfl,h2⟩:=i2.mono s12;refine#[_,rfl,c1,_,_,_,rfl,rfl,aI.of h1,rfl,_,_,rfl,rfl,_,rfl,c2,_,_,_,rfl,rfl,aI.of h2,rfl,_,_,rfl,rfl,?_];refine#[_,rfl,_,rfl,v,q,m,rfl,ia.mono s12,?_];refine#[_,rfl,c1,_,_,_,rfl,rfl,aI.of h1,rfl,_,_,rfl,rfl,_,rfl,c2,_,_,_,rfl,rfl,aI.of h2,rfl,_,_,rfl,rfl,?_];refine#[_,rfl,_,rfl,_,rfl,_,rfl,(by show 4<=sizeLine;decide),λt ht=>k _ _ (s12.trans (ai ht)) #[t,rfl,?_]];rw[ab];rcases hm with rfl|rfl
 .show some (HO.tup [V.int (1+((Qm.bestAt b (fL q 1 n)).n:Int)+((Qm.bestAt b (fM q 1 n)).n:Int)),V.int ((q.h:Int)+((Qm.bestAt b (fL q 1 n)).long:Int)+((Qm.bestAt b (fM q 1 n)).long:Int)),V.int 1,V.int (n:Int)])
   =some (HO.tup [V.int (((Qm.bestAt b (Kyq2.left q n)).n+(Qm.bestAt b (Kyq2.right q n)).n+1:Nat):Int),V.int (((Qm.bestAt b (Kyq2.left q n)).long+(Qm.bestAt b (Kyq2.right q n)).long+q.h:Nat):Int),V.int 1,V.int (n:Int)])
  rw[show fL q 1 n=Kyq2.left q n from rfl,show fM q 1 n=Kyq2.right q n from rfl]
  congr 4
  .congr 1;lia
  .congr 2;lia
 .show some (HO.tup [V.int (1+((Qm.bestAt b (fL q 2 n)).n:Int)+((Qm.bestAt b (fM q 2 n)).n:Int)),V.int ((q.w:Int)+((Qm.bestAt b (fL q 2 n)).long:Int)+((Qm.bestAt b (fM q 2 n)).long:Int)),V.int 2,V.int (n:Int)])
   =some (HO.tup [V.int (((Qm.bestAt b (Kyq2.upper q n)).n+(Qm.bestAt b (Kyq2.lower q n)).n+1:Nat):Int),V.int (((Qm.bestAt b (Kyq2.upper q n)).long+(Qm.bestAt b (Kyq2.lower q n)).long+q.w:Nat):Int),V.int 2,V.int (n:Int)])
  rw[show fL q 2 n=Kyq2.upper q n from rfl,show fM q 2 n=Kyq2.lower q n from rfl]
  congr 4
  .congr 1;lia
  .congr 2;lia
end QS
namespace Qm
open Kyq1 Kyq2
variable{h w:Nat}
theorem qG{α:Type}{f:Nat->List α}{m:Nat}(h:∀x,(f x).length<=m):∀n,((List.range n).flatMap f).length<=n*m
 |0=>by simp
 |n+1=>by
  rw[Zp,Zw,XY,YY];have:=qG h n;have:=h n;have e:[n].flatMap f=f n:=by simp
  rw[e]
  lia
def tQ(w r c t:Nat):List Kyq2.Rect:=(List.range (w-c)).map λl=>#[t,l,r+1,c+1]
def tR(h w r c:Nat):List Kyq2.Rect:=(List.range (h-r)).flatMap (tQ w r c)
def tS(h w r:Nat):List Kyq2.Rect:=(List.range w).flatMap (tR h w r)
theorem IV(hw:w<=6)(r c t:Nat):(tQ w r c t).length<=6:=by simp[tQ];lia
theorem IW(hh:h<=6)(hw:w<=6)(r c:Nat):(tR h w r c).length<=36:=X8 (qG (IV hw r c) _) (ZH (show h-r<=6 by lia) (X0 6))
def Tx(hh:h<=6)(hw:w<=6)(r:Nat):(tS h w r).length<=216:=X8 (qG (IW hh hw r) _) (ZH hw (X0 36))
def Bo{α:Type}(f:Nat->List α)(n:Nat):(List.range (n+1)).flatMap f=(List.range n).flatMap f++f n:=by rw[Zp,Zw];simp
theorem Tz{b:Rows}(F:aZ b){q:Kyq2.Rect}(hi:inside (aq b) q)(h1:¬(q.h=1/\q.w=1)):piece (aq b) q=true↔(at2 b q.r q.c).d=0/\∀i,i<q.h->((b.getD (q.r+i) []).drop q.c).take q.w=List.replicate q.w (at2 b q.r q.c):=by
 obtain⟨i1,i2,i3,i4⟩:=hi;have e1:(aq b).h=b.length:=rfl;have e2:(aq b).w=width b:=rfl;have c0:cell (aq b) q.r q.c=at2 b q.r q.c:=hJ F.good (by lia);have ok:=G8 F (i:=q.r) (j:=q.c) (by lia);rw[c0]at ok;obtain⟨_,_,_,_,o⟩:=kM ok;have p0:(at2 b q.r q.c).d=0->(#[0,(at2 b q.r q.c).a,(at2 b q.r q.c).a]:Patch)=at2 b q.r q.c:=λz=>by
  rcases o with⟨o1,o2⟩|⟨o1,_⟩
  .generalize at2 b q.r q.c=p at o1 o2;cases p;simp at o1 o2;rw[o1,o2]
  .lia
 have pe:piece (aq b) q=true↔∀i,i<q.h->∀j,j<q.w->at2 b (q.r+i) (q.c+j)=#[0,(at2 b q.r q.c).a,(at2 b q.r q.c).a]:=by
  unfold piece allOne;rw[c0];simp only[Y6,Ya,beq_iff_eq,YZ,Yb];constructor
  .intro h i hi j hj;have:=vG.mp (h.resolve_left h1 i hi j hj);rwa[hJ F.good (by lia)]at this
  .intro h;refine .inr λi hi j hj=>vG.mpr ?_;rw[hJ F.good (by lia)];exact h i hi j hj
 rw[pe];have row:∀i,i<q.h->(b.getD (q.r+i) []).length=width b:=λi hi=>by
  have hl:q.r+i<b.length:=by lia
  rw[XU,XT hl];exact F.good.row _ (Ys hl)
 have el:∀i,i<q.h->∀j,j<q.w->(((b.getD (q.r+i) []).drop q.c).take q.w)[j]?=some (at2 b (q.r+i) (q.c+j)):=λi hi j hj=>by
  have:=row i hi;rw[Zy,if_pos hj,Zn];unfold at2;rw[XU (l:=b.getD (q.r+i) []),XT (by lia)];rfl
 constructor
 .intro h;have d0:(at2 b q.r q.c).d=0:=by
   have:=h 0 (by lia) 0 (by lia);rw[ZG,ZG]at this;rw[this]
  refine#[d0,λi hi=>Z1 λj=>?_];by_cases hj:j<q.w
  .rw[el i hi j hj,h i hi j hj,p0 d0,Y2,if_pos hj]
  .rw[Y2,if_neg hj,Zy,if_neg hj]
 .intro⟨d0,h⟩ i hi j hj;have:=el i hi j hj;rw[h i hi,Y2,if_pos hj]at this;rw[p0 d0];exact(XW this).symm
end Qm
namespace QS
open Qm
open PySem PySem.Spec PyProof.Rows L2
open Kyq1 (Patch Exp)
open Qm (Rows aZ)
open Kyq2 (Rect)
variable{H H':Hp}{L:List Rect}{q q':Shop}{P:Program}{w:World}{K:ZX}{mg:ZQ}{base:Heap}{b:Rows}{i n:Nat}{kvs:List (List Key×V)}{C a ba d dx p sa st ua:Addr}{v wv:V}{am bo l us:List Nat}{wk:Work}{c:Call}{G G':Gh}{B:List Addr}{wo:Option Work}{xs:List V}{j:Int}
theorem IX(xs:List V){r h:Nat}(hl:r+h<=xs.length):eS xs (some ((r:Nat):Int)) (some (((r:Nat):Int)+((h:Nat):Int)))=(xs.drop r).take h:=by
 unfold eS;rw[show((r:Nat):Int)+((h:Nat):Int)=((r+h:Nat):Int) by lia,HT.nr,HT.nr,aaf hl,aaf (show r<=xs.length by lia),aaD]
theorem Paired.take{α β:Type}{F:α->β->Prop}:∀ {l:List α} {m:List β} (n:Nat),Paired F l m->Paired F (l.take n) (m.take n)
 |_,_,0,_=>by rw[aak,aak];exact .nil
 |_,_,n+1,.nil=>by rw[List.take_nil,List.take_nil];exact .nil
 |_,_,n+1,.cons r t=>by rw[aah,aah];exact .cons r (Paired.take n t)
theorem Paired.drop{α β:Type}{F:α->β->Prop}:∀ {l:List α} {m:List β} (n:Nat),Paired F l m->Paired F (l.drop n) (m.drop n)
 |_,_,0,h=>by rw[aaj,aaj];exact h
 |_,_,n+1,.nil=>by rw[List.drop_nil,List.drop_nil];exact .nil
 |_,_,n+1,.cons r t=>by rw[List.drop_succ_cons,List.drop_succ_cons];exact Paired.drop n t
def TB{D t:Addr}{acc:List V}{q:Rect}(hD:H' D=some (.lst acc))(ht:H' t=none)(s:ag H (del H' D))(pr:Paired (c5 (del H' D)) acc L):
  ag H (del (upd (upd H' t (.tup [.int (q.r:Nat),.int (q.c:Nat),.int (q.h:Nat),.int (q.w:Nat)])) D (.lst (acc++[.ref t]))) D)/\
  Paired (c5 (del (upd (upd H' t (.tup [.int (q.r:Nat),.int (q.c:Nat),.int (q.h:Nat),.int (q.w:Nat)])) D (.lst (acc++[.ref t]))) D)) (acc++[.ref t]) (L++[q]):=by
 have tD:t≠D:=λz=>by rw[z,hD]at ht;cases ht
 have e:ag (del H' D) (del (upd (upd H' t (.tup [.int (q.r:Nat),.int (q.c:Nat),.int (q.h:Nat),.int (q.w:Nat)])) D (.lst (acc++[.ref t]))) D):=λb o h=>by
  obtain⟨h1,h2⟩:=iP h;rw[cE h1,ae h1,ae (bH h2 ht)];exact h2
 refine#[s.trans e,Paired.snoc (Paired.aY pr λ_ _ z=>z.mono e) #[t,rfl,?_]];rw[cE tD,ae tD];exact ab
abbrev IY:Sp:=fO a_ Qm.Good To (λb=>Qm.eW b.length (Qm.width b))
theorem TC(T:gH mg)(D:bx K mg "areas_of" (top 8) ["block"]):aH P w K mg base 1 "areas_of" ["block"] IY:=by
 refine D.go ["block","found","rows","columns","top","left"] λnd H vs Q E hr h=>?_;obtain⟨v,b,rfl,⟨bA,vs,rfl,hb,pr⟩,g,k⟩:=h;refine#[_,(aC (aR 1 (aV eQ)) (aC (dq PassesOwn.never rfl (rB rfl T.eX (aU aw (aO bS (bO K T.bP (pv 0)) aw))) (bQ 2) (bF (dq PassesOwn.never rfl (rB rfl T.eX (aU aw (aO bS (bO K T.bP (a0 K (pv 0) aw)) aw))) (bQ 3) (bF (dq PassesOwn.never rfl (iJ rfl T.eX (au (aO bS (aO dM (bO K T.bP (pv 0)) (pv 2)) aw))) (bQ 4) (bF (dq PassesOwn.never rfl (iJ rfl T.eX (au (aO bS (aO dM (bO K T.bP (a0 K (pv 0) aw)) (pv 3)) aw))) (bQ 5) (bF (cK (c_ X4 Yk Yl fE (pv 1) (au (cU (bC (pv 4) (bC (pv 5) (aU (pv 2) (pv 3)))))))))))))))) (ax (pv 1)))),?_];have ln:=pr.length;have h1:=g.h1;have h6:=g.h6;have w6:=g.w6;obtain⟨row,hrow⟩:∃row,b[0]?=some row:=#[_,XT h1]
 obtain⟨r0,hr0,ra,ws,rfl,hra,hX⟩:=Paired.get pr hrow;have lw:ws.length=Qm.width b:=by rw[hX.length];exact g.row row (X_ hrow)
 refine#[Yg _,λD hD=>?_];have back:∀ {H':Hp},ag H (del H' D)->H' bA=some (.lst vs)/\H' ra=some (.lst ws):=λs=>#[bc _ _ (s _ _ hb),bc _ _ (s _ _ hra)]
 refine#[_,rfl,bA,vs,rfl,.inl (af.of (ai hD _ _ hb)),_,_,rfl,rfl,1,_,rfl,#[by decide,by decide,by lia,by lia],jM (λi σ H'=>uz λv2 v3 v4 v5 acc=>σ=[some (.ref bA),some (.ref D),v2,v3,v4,v5]/\H' D=some (.lst acc)/\ag H (del H' D)/\Paired (c5 (del H' D)) acc ((List.range i).flatMap (Qm.tS b.length (Qm.width b)))) #[none,none,none,none,[],rfl,ab,by rw[cf hD];exact ag.refl _,.nil] ?_ ?_]
 .rintro i σ H1 hi ⟨v2,v3,v4,v5,Bp,rfl,hD1,s1,p1⟩;obtain⟨hb1,TF⟩:=back s1;refine#[_,rfl,bA,vs,0,_,rfl,rfl,af.of hb1,at_of (j:=0) rfl hr0,ra,ws,rfl,.inl (af.of TF),_,_,rfl,rfl,1,_,rfl,#[by decide,by decide,by lia,by lia],jM (λj σ H'=>lT λv3 v4 v5 acc=>σ=[some (.ref bA),some (.ref D),some (.int (1+(i:Nat))),v3,v4,v5]/\H' D=some (.lst acc)/\ag H (del H' D)/\Paired (c5 (del H' D)) acc ((List.range i).flatMap (Qm.tS b.length (Qm.width b))++(List.range j).flatMap (Qm.tR b.length (Qm.width b) i))) #[v3,v4,v5,Bp,rfl,hD1,s1,by simpa using p1] ?_ ?_]
  .rintro j σ H2 hj ⟨v3,v4,v5,qg,rfl,hD2,s2,p2⟩;obtain⟨hb2,Xy⟩:=back s2;refine#[_,rfl,bA,vs,rfl,.inl (af.of hb2),_,rfl,_,_,rfl,rfl,_,_,rfl,rfl,_,rfl,by lia,by lia,jM (λm σ H'=>c8 λv4 v5 acc=>σ=[some (.ref bA),some (.ref D),some (.int (1+(i:Nat))),some (.int (1+(j:Nat))),v4,v5]/\H' D=some (.lst acc)/\ag H (del H' D)/\Paired (c5 (del H' D)) acc (((List.range i).flatMap (Qm.tS b.length (Qm.width b))++(List.range j).flatMap (Qm.tR b.length (Qm.width b) i))++(List.range m).flatMap (Qm.tQ (Qm.width b) i j))) #[v4,v5,qg,rfl,hD2,s2,by simpa using p2] ?_ ?_]
   .rintro m σ H3 hm ⟨v4,v5,Bq,rfl,ot,s3,p3⟩;obtain⟨hb3,TH⟩:=back s3;refine#[_,rfl,bA,vs,0,_,rfl,rfl,af.of hb3,at_of (j:=0) rfl hr0,ra,ws,rfl,.inl (af.of TH),_,rfl,_,_,rfl,rfl,_,_,rfl,rfl,_,rfl,by lia,by lia,jM (λn σ H'=>aX λv5 acc=>σ=[some (.ref bA),some (.ref D),some (.int (1+(i:Nat))),some (.int (1+(j:Nat))),some (.int (0+(m:Nat))),v5]/\H' D=some (.lst acc)/\ag H (del H' D)/\Paired (c5 (del H' D)) acc ((((List.range i).flatMap (Qm.tS b.length (Qm.width b))++(List.range j).flatMap (Qm.tR b.length (Qm.width b) i))++(List.range m).flatMap (Qm.tQ (Qm.width b) i j))++(List.range n).map λl=>#[m,l,i+1,j+1])) #[v5,Bq,rfl,ot,s3,by simpa using p3] ?_ ?_]
    .rintro n σ H4 hn ⟨v5,tT,rfl,qH,s4,p4⟩;have cM:tT.length<sizeLine:=by
      rw[p4.length];have a1:=Qm.qG (Qm.Tx h6 w6) i;have a2:=Qm.qG (Qm.IW h6 w6 i) j;have a3:=Qm.qG (Qm.IV w6 i j) m;have b1:i*216<=6*216:=ZH (by lia) (X0 _);have b2:j*36<=6*36:=ZH (by lia) (X0 _);have b3:m*6<=6*6:=ZH (by lia) (X0 _);simp only[XY,XX,Zq];exact Yq (show _<=2000 by lia) (by decide)
     refine#[_,rfl,.inl #[rfl,_,af.of qH],_,rfl,_,rfl,_,rfl,_,rfl,(by show 4<=sizeLine;decide),λt ht=>?_];have tD:t≠D:=λz=>by rw[z,qH]at ht;cases ht
     refine#[D,tT,_,rfl,rfl,by rw[ae (Ne.symm tD)];exact qH,cM,some (.int (0+(n:Nat))),tT++[.ref t],rfl,ab,?_];have e:(HO.tup [V.int (0+(m:Int)),V.int (0+(n:Int)),V.int (1+(i:Int)),V.int (1+(j:Int))])=HO.tup [V.int ((m:Nat):Int),V.int ((n:Nat):Int),V.int ((i+1:Nat):Int),V.int ((j+1:Nat):Int)]:=by
      rw[YJ,YJ,show(1+(i:Int))=((i+1:Nat):Int) by lia,show(1+(j:Int))=((j+1:Nat):Int) by lia]
     rw[e,Zp,Zz,<-Yw];exact TB (q:=#[m,n,i+1,j+1]) qH ht s4 p4
    .rintro σ H4 ⟨v5,tT,rfl,qH,s4,p4⟩;refine#[_,v5,tT,rfl,qH,s4,?_];have e:(((ws.length:Nat):Int)-(1+(j:Int))+1).toNat=Qm.width b-j:=by lia
     rw[e]at p4;rw[Qm.Bo,<-Yw];exact p4
   .rintro σ H3 ⟨v4,v5,Bq,rfl,ot,s3,p3⟩;refine#[_,v4,v5,Bq,rfl,ot,s3,?_];have e:(((vs.length:Nat):Int)-(1+(i:Int))+1).toNat=b.length-i:=by lia
    rw[e]at p3;rw[Qm.Bo,<-Yw];exact p3
  .rintro σ H2 ⟨v3,v4,v5,qg,rfl,hD2,s2,p2⟩;refine#[_,v3,v4,v5,qg,rfl,hD2,s2,?_];have e:(((ws.length:Nat):Int)+1-1).toNat=Qm.width b:=by lia
   rw[e]at p2;rw[Qm.Bo];exact p2
 .rintro σ H1 ⟨v2,v3,v4,v5,Bp,rfl,hD1,s1,p1⟩;refine#[_,rfl,k _ _ (s1.trans bc) #[D,Bp,rfl,hD1,?_]];have e:(((vs.length:Nat):Int)+1-1).toNat=b.length:=by lia
  rw[e]at p1;exact Paired.aY p1 λ_ _ z=>z.mono bc
theorem IZ(r:List Patch):SeqAt.shaped (eE r)=true:=by
 have:=Hr r;unfold SeqAt.shaped;rw[Hq];simp
 lia
inductive I0(vs:List V)(H:Hp)(Q:VK)(E:XK):Prop|mk(v b u q:_)(_:vs=[v,u])(_:a_ H v b)(_:c5 H u q)(_:aZ b)(_:Qm.inside (Qm.aq b) q)(_:∀H',ag H H'->Q (.bl (Kyq2.piece (Qm.aq b) q)) H')
theorem TJ(T:gH mg)(D:bx K mg "is_piece" (top 10) ["block","area"])(qI:aH P w K mg base 1 "first_patch" ["block","area"] Bk):aH P w K mg base 2 "is_piece" ["block","area"] I0:=by
 refine D.go ["block","area","patch","row"] λnd H vs Q E hr h=>?_;obtain⟨v,b,u,q,rfl,⟨bA,vs,rfl,hb,pr⟩,⟨a,rfl,ha⟩,F,hi,k⟩:=h;refine#[_,(aM (PW.pt (rp (aL bL (bE K (pv 1) (aE T.lF)) aw) (rn (aL bL (bE K (pv 1) (aE T.kh)) aw)))) (ax kE) (aC (aR 2 (bh qI (aU (pv 0) (pv 1)))) (aM (aL uR (bE K (pv 2) aw) aw) (ax kE) (aC (dq PassesOwn.never rfl (gq (l7 (pI K) (pv 0) (gY (bE K (pv 1) (aE T.oC))) (gY (aO bS (bE K (pv 1) (aE T.oC)) (bE K (pv 1) (aE T.lF)))))) (bQ 3) (bF (gS (aL (Nn hr.units) (l7 (pI K) (pv 3) (gY (bE K (pv 1) (aE T.oE))) (gY (aO bS (bE K (pv 1) (aE T.oE)) (bE K (pv 1) (aE T.kh))))) (aO jg (aV (au (pv 2))) (bE K (pv 1) (aE T.kh)))) (ax kE) jK))) (ax kE))))),?_];have i3:=hi.2.2.1;have i4:=hi.2.2.2;have e1:(Qm.aq b).h=b.length:=rfl;have e2:(Qm.aq b).w=Qm.width b:=rfl;have w6:=F.good.w6;have ln:=pr.length;refine#[_,rfl,a,_,_,_,rfl,rfl,aI.of ha,rfl,rfl,_,rfl,bg (λh1=>#[_,rfl,a,_,_,_,rfl,rfl,aI.of ha,rfl,rfl,_,rfl,bg (λh2=>?yes) (λh2=>?no)]) (λh1=>g8 ?Xz)]
 case yes=>
  have e:Kyq2.piece (Qm.aq b) q=true:=by
   unfold Kyq2.piece;rw[qB h1,qB h2];rfl
  have:=k H (ag.refl _);rw[e]at this;exact this
 all_goals have nh:¬(q.h=1/\q.w=1):=by first|exact λz=>qC h2 z.2|exact λz=>qC h1 z.1
 all_goals
  have pw:=Qm.Tz F hi nh;have no:¬Kyq2.piece (Qm.aq b) q=true->∀H',ag H H'->Q (.bl false) H':=λn H' s=>by
   have:=k H' s;rw[Bool.not_eq_true]at n;rw[n]at this;exact this
  refine#[_,rfl,_,rfl,_,b,_,q,rfl,#[bA,vs,rfl,hb,pr],#[a,rfl,ha],#[F.good,hi],λH1 z s1 ip=>?_];obtain⟨pa,rfl,hpa⟩:=ip;have ip:de H1 (.ref pa) (Qm.at2 b q.r q.c):=#[pa,rfl,hpa]
  refine#[_,rfl,pa,_,_,_,rfl,rfl,aI.of hpa,rfl,rfl,_,rfl,bg (λh3=>no (λz=>?_) H1 s1) (λh3=>?_)]
  .have d0:=(pw.mp z).1;have h3:(!decide (V.int ((Qm.at2 b q.r q.c).d:Nat)=V.int 0))=true:=h3;rw[d0]at h3;exact absurd h3 (by decide)
  have d0:(Qm.at2 b q.r q.c).d=0:=by
   by_cases z:V.int ((Qm.at2 b q.r q.c).d:Nat)=V.int 0
   .injection z with z
    lia
   .exact absurd (show(!decide (V.int ((Qm.at2 b q.r q.c).d:Nat)=V.int 0))=true by rw[Yh z];rfl) h3
  have ha1:=s1 _ _ ha;refine#[_,rfl,_,rfl,a,_,_,_,rfl,rfl,aI.of ha1,rfl,_,rfl,_,rfl,a,_,_,_,rfl,rfl,aI.of ha1,rfl,_,rfl,a,_,_,_,rfl,rfl,aI.of ha1,rfl,_,_,rfl,rfl,_,rfl,bA,vs,rfl,af.of (s1 _ _ hb),λp hp=>?_];rw[IX vs (by lia)];have s2:=s1.trans (ai (o:=HO.lst ((vs.drop q.r).take q.h)) hp);refine#[p,rfl,#[_,af.of ab],kF (K:=K) (a:=p) (xs:=(vs.drop q.r).take q.h) (λi σ H'=>∃v3,σ=[some (.ref bA),some (.ref a),some (.ref pa),v3]/\ag (upd H1 p (.lst ((vs.drop q.r).take q.h))) H'/\∀j,j<i->((b.getD (q.r+j) []).drop q.c).take q.w=List.replicate q.w (Qm.at2 b q.r q.c)) #[none,rfl,ag.refl _,λj z=>absurd z (aaF j)] (λi σ H' _ ⟨_,_,h,_⟩=>af.of (h _ _ ab)) ?_ ?_]
  .rintro i x σ H' hx ⟨v3,rfl,s3,ok⟩;have hi':i<q.h:=by
    have:=(XZ.mp hx).1;rw[YF]at this
    lia
   rw[Zy,if_pos hi',Zn]at hx;obtain⟨row,hrow,ra,ws,rfl,hra,hX⟩:=Paired.getL pr hx;have lr:=F.good.row row (X_ hrow);have lw:=hX.length;have er:b.getD (q.r+i) []=row:=by rw[XU,hrow];rfl
   have jR:=s2.trans s3;have ha3:=jR _ _ ha;refine#[_,rfl,_,rfl,a,_,_,_,rfl,rfl,aI.of ha3,rfl,_,rfl,_,rfl,a,_,_,_,rfl,rfl,aI.of ha3,rfl,_,rfl,a,_,_,_,rfl,rfl,aI.of ha3,rfl,_,_,rfl,rfl,_,rfl,ra,ws,rfl,af.of (jR _ _ hra),λp2 hp2=>?_];rw[IX ws (by lia)];have s4:=ai (o:=HO.lst ((ws.drop q.c).take q.w)) hp2;refine#[_,rfl,bu,λZ hZ=>?_];have s5:=ai (o:=HO.lst [V.ref pa]) hZ;refine#[_,rfl,a,_,_,_,rfl,rfl,aI.of (s5 _ _ (s4 _ _ ha3)),rfl,Z,_,[.ref pa],rfl,rfl,ab,by lia,by lia,(by rw[Yd];exact X8 (show _<=6 by simp only[X2,YD];lia) (by decide)),λL hL=>?_];rw[Yd];have s6:=ai (o:=HO.lst (List.replicate q.w [V.ref pa]).flatten) hL;have sA:=(s4.trans s5).trans s6;refine#[eE (((b.getD (q.r+i) []).drop q.c).take q.w),eE (List.replicate q.w (Qm.at2 b q.r q.c)),Ab #[p2,_,rfl,s6 _ _ (s5 _ _ ab),?_],Ab #[L,_,rfl,ab,?_],IZ _,IZ _,_,rfl,bg (λh4=>no (λz=>?_) _ (jR.trans sA)) (λh4=>?_)]
   .rw[er];exact Paired.take _ (Paired.drop _ (Paired.aY hX λ_ _ z=>z.mono (jR.trans sA)))
   .have:=Paired.rep (F:=de (upd (upd (upd H' p2 (.lst ((ws.drop q.c).take q.w))) Z (.lst [.ref pa])) L (.lst (List.replicate q.w [V.ref pa]).flatten))) (l:=[V.ref pa]) (m:=[Qm.at2 b q.r q.c]) (.cons (ip.mono (((ai hp).trans s3).trans sA)) .nil) q.w;have e:Qm.rep q.w [Qm.at2 b q.r q.c]=List.replicate q.w (Qm.at2 b q.r q.c):=by simp[Qm.rep]
    rw[e]at this;exact this
   .have z:=(Ae _ _).mpr ((pw.mp z).2 i hi');have h4:(!PyData.eqv (eE (((b.getD (q.r+i) []).drop q.c).take q.w)) (eE (List.replicate q.w (Qm.at2 b q.r q.c))))=true:=h4;rw[z]at h4;exact absurd h4 (by decide)
   .refine#[some (.ref ra),rfl,s3.trans sA,λj hj=>?_];by_cases c:j<i
    .exact ok j c
    .rw[show j=i by lia];refine(Ae _ _).mp ?_;cases e:PyData.eqv (eE (((b.getD (q.r+i) []).drop q.c).take q.w)) (eE (List.replicate q.w (Qm.at2 b q.r q.c)))with|true=>rfl|false=>exact absurd (show(!PyData.eqv (eE (((b.getD (q.r+i) []).drop q.c).take q.w)) (eE (List.replicate q.w (Qm.at2 b q.r q.c))))=true by rw[e];rfl) h4
  .rintro σ H' ⟨v3,rfl,s3,ok⟩;have lh:((vs.drop q.r).take q.h).length=q.h:=by rw[YF,YN];lia
   rw[lh]at ok;have:=k H' (s2.trans s3);rw[pw.mpr #[d0,ok]]at this;exact this
def lI(q:Rect):List (Nat×Nat):=((List.range (q.w-1)).map λi=>(1,i+1))++(List.range (q.h-1)).map λi=>(2,i+1)
abbrev I_:Sp:=fO c5 (λq=>q.h<=6/\q.w<=6) Tp lI
theorem TK(T:gH mg)(D:bx K mg "seams_across" (top 11) ["area"]):aH P w K mg base 1 "seams_across" ["area"] I_:=by
 refine D.go ["area","upright","level","k"] λnd H vs Q E hr h=>?_;obtain⟨v,q,rfl,⟨a,rfl,ha⟩,⟨h6,w6⟩,k⟩:=h;refine#[_,(aC (EF (i:=1) rfl nd rfl rfl (EG rfl rfl rfl (by decide+kernel)) (rB rfl T.eX (aU aw (bE K (pv 0) (aE T.kh)))) (fF (own:=[("k",3)]) (by rfl)) (λ_ _ _ _ _=>(bQ 3)) (λ_ _ _ _ _=>nF) (λ_ _ _ _ _=>(dO (cU (aU (aE T.xf) (pv 3)))))) (aC (EF (i:=2) rfl nd rfl rfl (EG rfl rfl rfl (by decide+kernel)) (rB rfl T.eX (aU aw (bE K (pv 0) (aE T.lF)))) (fF (own:=[("k",3)]) (by rfl)) (λ_ _ _ _ _=>(bQ 3)) (λ_ _ _ _ _=>nF) (λ_ _ _ _ _=>(dO (cU (aU (aE T.Tn) (pv 3)))))) (ax (aO jO (pv 1) (pv 2))))),?_];have get:∀ {n m i:Nat} {y:Nat×Nat},((List.range n).map λi=>(m,i+1))[i]?=some y->i<n/\y=(m,i+1):=λ{n m i y} h=>by
  have hi:=(XZ.mp h).1;rw[XX,Zq]at hi;rw[X1,Yn hi]at h;exact#[hi,(XW h).symm]
 refine#[_,rfl,a,_,_,_,rfl,rfl,aI.of ha,rfl,1,_,rfl,#[by decide,by decide,by lia,by lia],λD hD=>jk (J:=gm 1 (((q.w:Nat):Int)-1).toNat) (j:=3) IsPair (λ_ _ _ _ s h=>h.mono s) ((List.range (q.w-1)).map λi=>(1,i+1)) (dD (by simp;lia)) hD (λ_=>rfl) (λi y H' hy s1=>?_) (λH' s1=>?_) (λH1 acc hA s1 TM=>?_)]
 .obtain⟨hi,rfl⟩:=get hy;refine#[by show i<_;lia,λx h_ yl=>?_];obtain⟨e1,rfl⟩:=yl;refine#[e1,λQ k'=>#[_,rfl,(by show 2<=sizeLine;decide),λt ht=>k' _ _ (ai ht) #[t,rfl,?_]]];rw[ab,show(1:Int)+(i:Int)=((i+1:Nat):Int) by lia];rfl
 .show _<=_;simp
 have sa:=s1.trans bc;have ha1:=sa _ _ ha;refine#[_,rfl,a,_,_,_,rfl,rfl,aI.of ha1,rfl,1,_,rfl,#[by decide,by decide,by lia,by lia],λD2 hD2=>jk (J:=gm 1 (((q.h:Nat):Int)-1).toNat) (j:=3) IsPair (λ_ _ _ _ s h=>h.mono s) ((List.range (q.h-1)).map λi=>(2,i+1)) (dD (by simp;lia)) hD2 (λ_=>rfl) (λi y H' hy s1=>?_) (λH' s1=>?_) (λH2 qg mN s2 AE=>?_)]
 .obtain⟨hi,rfl⟩:=get hy;refine#[by show i<_;lia,λx h_ yl=>?_];obtain⟨e1,rfl⟩:=yl;refine#[e1,λQ k'=>#[_,rfl,(by show 2<=sizeLine;decide),λt ht=>k' _ _ (ai ht) #[t,rfl,?_]]];rw[ab,show(1:Int)+(i:Int)=((i+1:Nat):Int) by lia];rfl
 .show _<=_;simp
 have sb:=s2.trans bc;have pc:Paired (IsPair H2) (acc++qg) (lI q):=Paired.app (Paired.aY TM λ_ _ z=>(z.mono bc).mono sb) (Paired.aY AE λ_ _ z=>z.mono bc);refine#[_,rfl,_,rfl,D,D2,_,_,rfl,rfl,sb _ _ hA,mN,?_,λL hL=>k _ _ ((sa.trans sb).trans (ai hL)) #[L,_,rfl,ab,Paired.aY pc λ_ _ z=>z.mono (ai hL)]];have:=pc.length;rw[XY]at this;rw[this];exact dD (by simp[lI];lia)
theorem Ja:∀l m:List Nat,HT.lexLt (l.map λn=>((n:Nat):Int)) (m.map λn=>((n:Nat):Int))=jq l m
 |[],[]=>rfl
 |[],_::_=>rfl
 |_::_,[]=>rfl
 |x::l,y::m=>by
  rw[X7,X7,HT.Ef,Ja l m];unfold jq;by_cases e:x=y
  .rw[if_pos e,if_pos (by lia)];cases l<;>cases m<;>rfl
  .rw[if_neg e,if_neg (by lia)];exact decide_eq_decide.mpr (by lia)
theorem Jb(bt:Nat->Nat->Bool):∀k,kT bt k=argBest bt k
 |0=>rfl
 |k+1=>by
  unfold kT argBest;rw[Jb bt k]
def Jc(b:Kyq1.Block)(q:Rect):Qm.cands (Qm.bestAt b) q=(lI q).map λx=>Bl b q x.1 x.2:=by
 unfold Qm.cands lI;rw[Zz,Y1,Y1];rfl
theorem TN{q:Rect}{j:Nat}{x:Nat×Nat}(h:(lI q)[j]?=some x):(x.1=1/\1<=x.2/\x.2<q.w)\/(x.1=2/\1<=x.2/\x.2<q.h):=by
 have hm:=X_ h;unfold lI at hm;simp only[Yr,Yp,Yb]at hm;rcases hm with⟨i,hi,rfl⟩|⟨i,hi,rfl⟩
 .exact .inl #[rfl,by lia,by show i+1<q.w;lia]
 .exact .inr #[rfl,by lia,by show i+1<q.h;lia]
theorem TQ{q:Rect}(hq:(Qm.eW b.length (Qm.width b))[i]?=some q){m:Nat}(h:(m=1/\1<=n/\n<q.w)\/(m=2/\1<=n/\n<q.h)):
  fL q m n∈(Qm.eW b.length (Qm.width b)).take i/\fM q m n∈(Qm.eW b.length (Qm.width b)).take i:=by
 have hi:=nQ.mp (X_ hq);have i2:Qm.inside (Qm.aq b) q:=hi;rcases h with⟨rfl,h1,h2⟩|⟨rfl,h1,h2⟩
 .exact#[vS hq (nQ.mpr (pU i2 h1 h2)) (.inr #[rfl,h2]),vS hq (nQ.mpr (pV i2 h1 h2)) (.inr #[rfl,by show q.w-n<q.w;lia])]
 .exact#[vS hq (nQ.mpr (pW i2 h1 h2)) (.inl h2),vS hq (nQ.mpr (pX i2 h1 h2)) (.inl (by show q.h-n<q.h;lia))]
theorem TR{p q:Rect}(h:keyOf p=keyOf q):p=q:=by
 cases p;cases q;unfold keyOf at h;simp at h;obtain⟨a,b,c,d⟩:=h;simp
 lia
def lH.mono{b:Kyq1.Block}{q:Rect}(s:∀a xs,H a=some (.tup xs)->H' a=some (.tup xs))(h:lH b H kvs q):lH b H' kvs q:=let⟨u,e,a,ea,ha⟩:=h;#[u,e,a,ea,s _ _ ha]
def Jd{b:Kyq1.Block}{q:Rect}{u:V}(hd:H d=some (.dT kvs))(h:∀p∈L.take i,lH b H kvs p)(hq:L[i]?=some q)(hu:lG H u (Qm.bestAt b q)):∀p∈L.take (i+1),lH b (upd H d (.dT (putK kvs (keyOf q) u))) (putK kvs (keyOf q) u) p:=λp hp=>by
 have st:∀a xs,H a=some (.tup xs)->upd H d (.dT (putK kvs (keyOf q) u)) a=some (.tup xs):=λa xs e=>by rw[ae (λz=>by rw[z,hd]at e;cases e)];exact e
 rw[take_snoc hq]at hp;by_cases e:keyOf p=keyOf q
 .have e2:=TR e;subst e2;obtain⟨a,ea,ha⟩:=hu;exact#[u,by rw[EK,if_pos rfl],a,ea,st _ _ ha]
 .rcases Yr.mp hp with z|z
  .obtain⟨v,ev,iv⟩:=(h p z).mono st;exact#[v,by rw[EK,if_neg e];exact ev,iv]
  .exact absurd (by rw[Y0.mp z]) e
inductive Je(vs:List V)(H:Hp)(Q:VK)(E:XK):Prop|mk(v b:_)(_:vs=[v])(_:a_ H v b)(_:aZ b)(_:∀H' d kvs,ag H H'->H' d=some (.dT kvs)->(∀q,Qm.inside (Qm.aq b) q->lH (Qm.aq b) H' kvs q)->Q (.ref d) H')
theorem TU(T:gH mg)(D:bx K mg "best_choices" (top 16) ["block"])(Br:aH P w K mg base 1 "areas_of" ["block"] IY)(Bs:aH P w K mg base 2 "is_piece" ["block","area"] I0)(Bt:aH P w K mg base 1 "seams_across" ["area"] I_)
  (Bu:aH P w K mg base 2 "choice_with" ["area","way","k","chosen"] IU):aH P w K mg base 3 "best_choices" ["block"] Je:=by
 refine D.go ["block","chosen","area","way","k"] λnd H vs Q E hr h=>?_;obtain⟨v,b,rfl,ib,F,k⟩:=h;have hu:=y4 hr;refine#[_,(aC (x9 (i:=1) nd rfl (Or.inr rfl) NR) (aC (dq PassesOwn.never rfl (gq (bh Br (au (pv 0)))) (DD (i:=2) nd rfl (Or.inr rfl)) (bF (gS (e_ (bh Bs (aU (pv 0) (pv 2))) (λ_=>rfl)) (bF (ES hu (pv 1) (pv 2) (cU (bC aw (bC aw (aU (aE T.Bj) aw)))) rfl)) (bF (ES hu (pv 1) (pv 2) (kG (O4 hr.units rfl) (by rfl) T.IS (show bootBuiltins "min"=some (.builtin "min") by decide+kernel) (au (rR rfl nd (gq (bh Bt (au (pv 2)))) (fF (own:=[("way",3),("k",4)]) (by rfl)) (λ_ _ _ _ _=>(vB K (n:=2) rfl (gj (bQ 3) (gj (bQ 4) m_)))) (λ_ _ _ _ _=>nF) (λ_ _ _ _ _=>(dO (bh Bu (bC (pv 2) (bC (pv 3) (aU (pv 4) (pv 1)))))))))) rfl))))) (ax (pv 1)))),?_];intro d hd;have s1:=ai (o:=HO.dT []) hd;refine#[_,rfl,v,b,rfl,ib.mono s1,F.good,λH2 z s2 iz=>?_];obtain⟨az,as,rfl,Jf,pa⟩:=iz;have hd2:=s2 _ _ (ab (H:=H) (a:=d) (o:=HO.dT []));have nt:∀ {a:Addr} {o:HO},H2 a=some o->(∀kvs,o≠.dT kvs)->del H2 d a=some o:=λ{a o} e n=>by rw[cE (λz=>by rw[z,hd2]at e;exact n _ (XW e).symm)];exact e
 have Jg:Paired (c5 (del H2 d)) as (Qm.eW b.length (Qm.width b)):=Paired.aY pa λ_ _ ⟨a,e,h⟩=>#[a,e,nt h (λ_ z=>by cases z)]
 have Jh:ag H (del H2 d):=λc o e=>by rw[cE (bH e hd)];exact s2 _ _ (s1 _ _ e)
 have h6:=F.good.h6;have w6:=F.good.w6;have la:=Jg.length;have cM:=QA _ h6 _ w6;refine#[az,rfl,#[as,af.of Jf],kF (K:=K) (a:=az) (xs:=as) (λi σ H'=>lT λv2 v3 v4 kvs=>σ=[some v,some (.ref d),v2,v3,v4]/\H' d=some (.dT kvs)/\kvs.length<=i/\ag (del H2 d) H'/\∀q∈(Qm.eW b.length (Qm.width b)).take i,lH (Qm.aq b) H' kvs q) #[none,none,none,[],rfl,hd2,X0 _,bc,λq hq=>by simp at hq] (λi σ H' _ ⟨_,_,_,_,_,_,_,sm,_⟩=>af.of (sm _ _ (nt Jf (λ_ z=>by cases z)))) ?_ ?_]
 .rintro i x σ H' hx ⟨v2,v3,v4,kvs,rfl,hd',kl,sm,has⟩;obtain⟨q,hq,iq⟩:=Paired.getL Jg hx;have il:=(XZ.mp hx).1;have hi:Qm.inside (Qm.aq b) q:=nQ.mp (X_ hq);have iq:=iq.mono sm;have hh:q.h<=6:=by have:=hi.2.2.1;have e:(Qm.aq b).h=b.length:=rfl;lia
  have hw:q.w<=6:=by have:=hi.2.2.2;have e:(Qm.aq b).w=Qm.width b:=rfl;lia
  refine#[_,rfl,_,rfl,v,b,x,q,rfl,(ib.mono Jh).mono sm,iq,F,hi,λH3 s3=>#[_,rfl,bg (λh=>?_) (λh=>?_)]]
  .have Ji:=iq.mono s3;refine#[(by show 4<=sizeLine;decide),λt ht=>#[_,rfl,_,rfl,d,?_]];have s4:=s3.trans (ai (o:=HO.tup [V.int 0,V.int 0,V.int 0,V.int 0]) ht);obtain⟨xa,rfl,hxa⟩:=iq;have ic:lG (upd H3 t (.tup [V.int 0,V.int 0,V.int 0,V.int 0])) (.ref t) (Qm.bestAt (Qm.aq b) q):=by
    rw[su hi h];exact#[t,rfl,ab]
   refine#[_,rfl,pC.t (k:=keyOf q) (s4 _ _ hd') (s4 _ _ hxa) (Yq (show _<=441 by lia) (by decide)),some (.ref xa),v3,v4,_,rfl,ab,?_,λc o e=>?_,Jd (s4 _ _ hd') (λp hp=>(has p hp).mono λ_ _ e=>s4 _ _ e) hq ic]
   .have:=va kvs (keyOf q) (V.ref t)
    lia
   .rw[ae (iP e).1];exact s4 _ _ (sm _ _ e)
  .have h:Kyq2.piece (Qm.aq b) q=false:=by simpa using h
   have Ji:=iq.mono s3;refine#[_,rfl,x,q,rfl,Ji,#[hh,hw],λH4 z s4 iw=>?_];obtain⟨wa,ws,rfl,fi,pw⟩:=iw;have vy:=s3.trans s4;have lw:=pw.length;refine#[wa,rfl,#[ws,af.of fi],λD hD=>vC (J:=gT K wa) lG (λ_ _ _ _ s h=>h.mono s) (Qm.cands (Qm.bestAt (Qm.aq b)) q) (dD (by rw[zM];lia)) hD (λj y H5 hy s5 _=>?_) (λH5 s5=>?_) (λH5 acc hA s5 gC=>?_)]
   .rw[Jc,X1]at hy;obtain⟨p,hp,rfl⟩:∃p,(lI q)[j]?=some p/\Bl (Qm.aq b) q p.1 p.2=y:=by
     cases e:(lI q)[j]? with|none=>rw[e]at hy;cases hy|some p=>rw[e]at hy;exact#[p,rfl,XW hy]
    obtain⟨u,hu',t,rfl,ht⟩:=Paired.get pw hp;have s6:=s5.trans bc;refine#[sG (s6 _ _ fi) (XZ.mp hu').1,λx2 H6 yl=>?_];obtain⟨e1,e2⟩:=sI (s6 _ _ fi) yl;subst e1;rw[hu']at e2;cases e2;have wy:=TN hp;obtain⟨f1,f2⟩:=TQ hq wy;have oF:=vy.trans s5;refine#[[some v,some (.ref d),some x,some (.int (p.1:Nat)),some (.int (p.2:Nat))],λR hR=>#[t,_,rfl,aI.of (s6 _ _ ht),rfl,_,_,rfl,_,_,rfl,rfl,hR],rfl,ag.refl _,λQ k'=>?_];refine#[_,rfl,_,rfl,_,rfl,_,rfl,x,q,p.1,p.2,d,kvs,Qm.aq b,rfl,iq.mono oF,wy.imp (λz=>z.1) (λz=>z.1),?_,oF _ _ hd',(has _ f1).mono λ_ _ e=>oF _ _ e,(has _ f2).mono λ_ _ e=>oF _ _ e,λH7 z7 s7 i7=>k' z7 H7 s7 i7];rcases wy with⟨e,_,e3⟩|⟨e,_,e3⟩
    .rw[if_pos e];lia
    .rw[if_neg (by lia)];lia
   .exact sJ ((s5.trans bc) _ _ fi) (by rw[Jc,XX,lw])
   .have s6:=vy.trans (s5.trans bc);have lc:=gC.length;have pos:=GR hi h;rw[<-zM (Qm.bestAt (Qm.aq b))]at pos;have TV:Paired (λv n=>∃t,v=.ref t/\H5 t=some (.tup (n.map V.int))) acc ((Qm.cands (Qm.bestAt (Qm.aq b)) q).map λc=>(gz c).map λn=>((n:Nat):Int)):=by
     have:∀ {l:List V} {m:List Kyq2.Best},Paired (lG (del H5 D)) l m->Paired (λv n=>∃t,v=.ref t/\H5 t=some (.tup (n.map V.int))) l (m.map λc=>(gz c).map λn=>((n:Nat):Int)):=λ{l m} h=>by
      induction h with|nil=>exact .nil|cons r _ ih=>
       obtain⟨a,e,ha⟩:=r;exact .cons #[a,e,by rw[Y1];exact bc _ _ ha] ih
     exact this gC
    refine#[D,acc,_,rfl,af.of hA,TV,by lia,λu hu2=>?_];rw[lc]at hu2;have pick:=GS hi h (bt:=λi j=>HT.lexLt (((Qm.cands (Qm.bestAt (Qm.aq b)) q).map λc=>(gz c).map λn=>((n:Nat):Int)).getD i []) (((Qm.cands (Qm.bestAt (Qm.aq b)) q).map λc=>(gz c).map λn=>((n:Nat):Int)).getD j [])) (λi j a c ha hc=>by
     simp only[XU,X1,ha,hc,Zo,aaz];exact Ja _ _)
    rw[Jb]at pick;obtain⟨u',iW,ic⟩:=Paired.get gC pick;rw[hu2]at iW;cases iW;have ic:=ic.mono bc;have TX:=iq.mono s6;obtain⟨xa,rfl,hxa⟩:=TX;refine#[_,rfl,_,rfl,d,_,rfl,pC.t (k:=keyOf q) (s6 _ _ hd') hxa (Yq (show _<=441 by lia) (by decide)),some (.ref xa),v3,v4,_,rfl,ab,?_,λc o e=>?_,Jd (s6 _ _ hd') (λp hp=>(has p hp).mono λ_ _ e=>s6 _ _ e) hq ic]
    .have:=va kvs (keyOf q) u
     lia
    .rw[ae (iP e).1];exact s6 _ _ (sm _ _ e)
 .rintro σ H' ⟨v2,v3,v4,kvs,rfl,hd',kl,sm,has⟩;refine#[_,rfl,k H' d kvs (Jh.trans sm) hd' λq hq=>has q ?_];rw[la,YO];exact nQ.mpr hq
structure mP(K:ZX)(C:Addr):Prop where
 cl:d9 K C
 nN:du K C "numbers"
 nP:du K C "pieces"
 nE:du K C "ends"
def Jj(na pa ea:Addr):(pf na pa ea).lookup ("numbers":Str)=some (.ref na):=rfl
def TY(na pa ea:Addr):(pf na pa ea).lookup ("pieces":Str)=some (.ref pa):=rfl
def TZ(na pa ea:Addr):(pf na pa ea).lookup ("ends":Str)=some (.ref ea):=rfl
abbrev iv(l:List Nat):List V:=l.map λn=>V.int (n:Nat)
inductive Jk(vs:List V)(H:Hp)(Q:VK)(E:XK):Prop|mk(p dx:_)(_:vs=[.ref p])(_:H p=some (.ins kk.P dx []))(_:∀H' na pa ea,H' p=some (.ins kk.P dx (pf na pa ea))->H na=none->H pa=none->H ea=none->na≠pa->na≠ea->pa≠ea->H' na=some (.lst [])->H' pa=some (.lst [])->H' ea=some (.lst [])->cq p H H'->Q .ay H')
def T1(C:mP K kk.P)(F:aX λf fd=>d_ K "__init__" "Plan.__init__" (inClass (top 17) 0) f fd/\Mk K kk.P f/\Binds K fd ["self"] [])(hC:mg "Plan"=some (.ref kk.P)):fZ P w K mg base 1 "Plan" kk.P ["self"] (Jk):=by
 obtain⟨f,fd,F,M,b⟩:=F;refine#[hC,f,fd,M,b,F.go ["self"] λnd H vs Q E hr h=>?_];obtain⟨p,dx,rfl,hp,k⟩:=h;refine#[_,(aC (cj (pv 0) (aV eQ) rfl) (aC (cj (pv 0) (aV eQ) rfl) (bF (cj (pv 0) (aV eQ) rfl)))),?_];have up:∀ {G:Hp} {o:HO} {a:Addr} {xs:List V},G p=some o->G a=none->upd G a (.lst xs) p=some o:=λe n=>by rw[ae (bH e n)];exact e
 refine#[Yg _,λna n1=>#[_,rfl,p,kk.P,dx,_,rfl,up hp n1,C.cl,C.nN,(by show 0<1000;decide),?_]];have pn:p≠na:=bH hp n1;refine#[Yg _,λpa n2=>#[_,rfl,p,kk.P,dx,_,rfl,up ab n2,C.cl,C.nP,(by show 1<1000;decide),?_]];have pp:p≠pa:=bH ab n2;refine#[Yg _,λea n3=>#[_,rfl,p,kk.P,dx,_,rfl,up ab n3,C.cl,C.nE,(by show 2<1000;decide),?_]];have pe:p≠ea:=bH ab n3;have d1:na≠pa:=λz=>by rw[<-z,ae (Ne.symm pn),ab]at n2;cases n2
 have d3:pa≠ea:=λz=>by rw[<-z,ae (Ne.symm pp),ab]at n3;cases n3
 have d2:na≠ea:=λz=>by rw[<-z,ae (Ne.symm pn),ae d1,ae (Ne.symm pn),ab]at n3;cases n3
 have m2:H pa=none:=by rw[ae (Ne.symm pp),ae (Ne.symm d1)]at n2;exact n2
 have m3:H ea=none:=by rw[ae (Ne.symm pe),ae (Ne.symm d3),ae (Ne.symm pe),ae (Ne.symm d2)]at n3;exact n3
 have ef:aQ "ends" (V.ref ea) (aQ "pieces" (V.ref pa) (aQ "numbers" (V.ref na) []))=pf na pa ea:=by
  rw[show aQ "numbers" (V.ref na) ([]:List (Str×V))=([("numbers",V.ref na)]:List (Str×V))from rfl,dy (by decide+kernel),show aQ "pieces" (V.ref pa) ([]:List (Str×V))=([("pieces",V.ref pa)]:List (Str×V))from rfl,dy (by decide+kernel),dy (by decide+kernel)];rfl
 rw[ef];refine k _ na pa ea ab n1 m2 m3 d1 d2 d3 ?_ ?_ ?_ λc o e nc=>?_
 .rw[ae (Ne.symm pn),ae d2,ae (Ne.symm pn),ae d1,ae (Ne.symm pn)];exact ab
 .rw[ae (Ne.symm pp),ae d3,ae (Ne.symm pp)];exact ab
 .rw[ae (Ne.symm pe)];exact ab
 .rw[ae nc,ae (bH e m3),ae nc,ae (bH e m2),ae nc,ae (bH e n1)];exact e
inductive Jl(vs:List V)(H:Hp)(Q:VK)(E:XK):Prop|mk(p dx na pa ea av pv ns ps:_)(_:vs=[.ref p,av,pv])(_:H p=some (.ins kk.P dx (pf na pa ea)))(_:H na=some (.lst ns))(_:H pa=some (.lst ps))(_:na≠pa)(_:ns.length<1000)(_:ps.length<1000)(_:∀H' t,H t=none->H' na=some (.lst (ns++[.int 0]))->H' pa=some (.lst (ps++[.ref t]))->H' t=some (.tup [av,pv])->(∀b o,H b=some o->b≠na->b≠pa->H' b=some o)->Q .ay H')
def T3(T:gH mg)(C:mP K kk.P)(D:bI K kk.P "add_piece" "Plan.add_piece" (inClass (top 17) 1) ["self","area","patch"]):aF P w K mg base 1 kk.P "add_piece" ["self","area","patch"] (Jl):=by
 refine D.go ["self","area","patch"] C.cl λnd H vs Q E hr h=>?_;obtain⟨p,dx,na,pa,ea,av,mm,ns,ps,rfl,hp,hn,hq,ne,l1,l2,k⟩:=h;refine#[_,(aC (cK (c_ X4 Yk Yl fE (aK K (pv 0)) (au (aE T.Bj)))) (bF (cK (c_ X4 Yk Yl fE (aK K (pv 0)) (au (cU (aU (pv 1) (pv 2)))))))),?_];have pn:p≠na:=λz=>by rw[z,hn]at hp;cases hp
 refine#[_,rfl,p,kk.P,dx,_,_,rfl,hp,C.cl,C.nN,Jj _ _ _,.inl #[rfl,_,af.of hn],na,ns,_,rfl,rfl,hn,aax l1 (by decide),?_];refine#[_,rfl,p,kk.P,dx,_,_,rfl,(by rw[ae pn];exact hp),C.cl,C.nP,TY _ _ _,.inl #[rfl,_,af.of (by rw[ae (Ne.symm ne)];exact hq)],_,rfl,_,rfl,(by show 2<=sizeLine;decide),λt ht=>?_];have tn:t≠na:=λz=>by rw[z,ab]at ht;cases ht
 have tH:H t=none:=by rw[ae tn]at ht;exact ht
 have tp:t≠pa:=λz=>by rw[z,hq]at tH;cases tH
 refine#[pa,ps,_,rfl,rfl,by rw[ae (Ne.symm tp),ae (Ne.symm ne)];exact hq,aax l2 (by decide),k _ t tH ?_ ab ?_ λb o e n1 n2=>?_]
 .rw[ae ne,ae (Ne.symm tn)];exact ab
 .rw[ae tp];exact ab
 .rw[ae n2,ae (bH e tH),ae n1];exact e
inductive Jm(vs:List V)(H:Hp)(Q:VK)(E:XK):Prop|mk(p dx na pa ea x y z ns es:_)(_:vs=[.ref p,.int x,.int y,.int z])(_:H p=some (.ins kk.P dx (pf na pa ea)))(_:H na=some (.lst ns))(_:H ea=some (.lst es))(_:na≠ea)(_:ns.length<1000)(_:es.length<1000)(_:∀H',H' na=some (.lst (ns++[.int x,.int y]))->H' ea=some (.lst (es++[.int ((es.length:Nat)+z)]))->(∀b o,H b=some o->b≠na->b≠ea->H' b=some o)->Q .ay H')
theorem T4(T:gH mg)(C:mP K kk.P)(D:bI K kk.P "add_seam" "Plan.add_seam" (inClass (top 17) 2) ["self","way","k","seams"]):aF P w K mg base 1 kk.P "add_seam" ["self","way","k","seams"] (Jm):=by
 refine D.go ["self","way","k","seams"] C.cl λnd H vs Q E hr h=>?_;obtain⟨p,dx,na,pa,ea,x,y,z,ns,es,rfl,hp,hn,he,ne,l1,l2,k⟩:=h;refine#[_,(aC (cK (c_ X4 Zt Zu yE (aK K (pv 0)) (au (aV (aU (pv 1) (pv 2)))))) (bF (cK (c_ X4 Yk Yl fE (aK K (pv 0)) (au (aO bS (bO K T.bP (aK K (pv 0))) (pv 3))))))),?_];have pn:p≠na:=λz=>by rw[z,hn]at hp;cases hp
 refine#[_,rfl,p,kk.P,dx,_,_,rfl,hp,C.cl,C.nN,Jj _ _ _,.inl #[rfl,_,af.of hn],_,rfl,_,rfl,(by show 2<=sizeLine;decide),λt ht=>?_];have st:=ai (o:=HO.lst [V.int x,V.int y]) ht;have tn:t≠na:=λz=>by rw[z,hn]at ht;cases ht
 have te:t≠ea:=λz=>by rw[z,he]at ht;cases ht
 refine#[na,t,ns,_,rfl,rfl,st _ _ hn,ab,X8 (show _<=1002 by simp only[X2,YD];lia) (by decide),?_];have hp2:upd (upd H t (.lst [.int x,.int y])) na (.lst (ns++[.int x,.int y])) p=some (.ins kk.P dx (pf na pa ea)):=by rw[ae pn];exact st _ _ hp
 have he2:upd (upd H t (.lst [.int x,.int y])) na (.lst (ns++[.int x,.int y])) ea=some (.lst es):=by rw[ae (Ne.symm ne)];exact st _ _ he
 refine#[_,rfl,p,kk.P,dx,_,_,rfl,hp2,C.cl,C.nE,TZ _ _ _,.inl #[rfl,_,af.of he2],_,rfl,p,kk.P,dx,_,_,rfl,hp2,C.cl,C.nE,rfl,ea,es,rfl,.inl (af.of he2),_,rfl,_,_,rfl,rfl,ea,es,_,rfl,rfl,he2,aax l2 (by decide),k _ ?_ ab λb o e n1 n2=>?_]
 .rw[ae ne];exact ab
 .rw[ae n2,ae n1];exact st _ _ e
def c5.di{q:Rect}(s:∀a xs,H a=some (.tup xs)->H' a=some (.tup xs))(h:c5 H v q):c5 H' v q:=let⟨a,e,k⟩:=h;#[a,e,s _ _ k]
theorem jx.di{q:Rect}(s:∀a xs,H a=some (.tup xs)->H' a=some (.tup xs))(h:jx H b v q):jx H' b v q:=let⟨a,av,pv,e,k,x,⟨y,ey,hy⟩⟩:=h;#[a,av,pv,e,s _ _ k,x.di s,y,ey,s _ _ hy]
structure Told(b:Rows)(H1 H':Hp)(x dx na pa ea wa:Addr)(ws:List V)(st:List Rect)(nu:List Nat)(pc:List Rect)(en:List Nat):Prop where
 wait:H' wa=some (.lst ws)
 eW:Paired (c5 H') ws st.reverse
 plan:H' x=some (.ins kk.P dx (pf na pa ea))
 nums:H' na=some (.lst (iv nu))
 kU:∃ps,H' pa=some (.lst ps)/\Paired (jx H' b) ps pc
 ends:H' ea=some (.lst (iv en))
 run:Qm.Run (Qm.aq b) (Kyq2.whole (Qm.aq b)) st nu pc en
 same:ag H1 H'
theorem T5(T:gH mg)(C:mP K kk.P)(D:bx K mg "best_plan" (top 18) ["block"])(Bv:aH P w K mg base 3 "best_choices" ["block"] Je)(Bw:fZ P w K mg base 1 "Plan" kk.P ["self"] (Jk))(qI:aH P w K mg base 1 "first_patch" ["block","area"] Bk)
  (Bx:aF P w K mg base 1 kk.P "add_piece" ["self","area","patch"] (Jl)) (By:aF P w K mg base 1 kk.P "add_seam" ["self","way","k","seams"] (Jm)) (qE:aH P w K mg base 1 "first_part" ["area","way","k"] (qD fL)) (qF:aH P w K mg base 1 "second_part" ["area","way","k"] (qD fM)):
  aH P w K mg base 10 "best_plan" ["block"] (Ia):=by
 refine D.go ["block","chosen","plan","waiting","area","choice","way","k"] λnd H vs Q E hr h=>?_;obtain⟨v,b,rfl,ib,F,k⟩:=h;have hu:=y4 hr;refine#[_,(aC (aR 1 (bh Bv (au (pv 0)))) (aC (aR 2 (vm Bw)) (aC (aR 3 (aV (au (cU (bC aw (bC aw (aU (bO K T.bP (pv 0)) (bO K T.bP (a0 K (pv 0) aw))))))))) (aC (x_ PassesOwn.never (aL gX (bO K T.bP (pv 3)) aw) (aC (aR 4 (pb X4 YW YX ph (pv 3))) (aC (aR 5 (yW hu (pv 1) (pv 4) (λ_ _=>rfl))) (aC (aR 6 (bE K (pv 5) aw)) (aC (aR 7 (bE K (pv 5) aw)) (bF (gS (aL bL (pv 6) (aE T.Bj)) (bF (cK (bq Bx (pv 2) (aU (pv 4) (bh qI (aU (pv 0) (pv 4))))))) (aC (cK (bq By (pv 2) (bC (pv 6) (aU (pv 7) (bE K (pv 5) aw))))) (aC (cK (c_ X4 Yk Yl fE (pv 3) (au (bh qF (bC (pv 4) (aU (pv 6) (pv 7))))))) (bF (cK (c_ X4 Yk Yl fE (pv 3) (au (bh qE (bC (pv 4) (aU (pv 6) (pv 7))))))))))))))))) (ax (pv 2)))))),?_];refine#[_,rfl,v,b,rfl,ib,F,λH1 d kvs s1 hd has=>?_];intro x dx nx ndx jz;have wK:upd H1 dx (.own x) x=none:=by rw[ae (Ne.symm jz)];exact nx
 have sD:=(ai (o:=HO.own x) ndx).trans (ai (o:=HO.ins kk.P dx []) wK);refine#[x,dx,rfl,ab,λH3 na pa ea hx n1 n2 n3 d1 d2 d3 e1 e2 e3 sx=>#[rfl,?_]];have s3:ag H1 H3:=λc o e=>sx _ _ (sD _ _ e) (bH e nx);have no:∀ {a:Addr},upd (upd H1 dx (.own x)) x (.ins kk.P dx []) a=none->H1 a=none:=λ{a} h=>Ye.mpr λo e=>by rw[sD _ _ e]at h;cases h
 have m1:=no n1;have m2:=no n2;have m3:=no n3;have ib3:=(ib.mono s1).mono s3;obtain⟨bA,vs,rfl,hb,pr⟩:=ib3;have ln:=pr.length;obtain⟨row,hrow⟩:∃row,b[0]?=some row:=#[_,XT F.good.h1]
 obtain⟨r0,hr0,ra,Bz,rfl,hra,hX⟩:=Paired.get pr hrow;have lw:Bz.length=Qm.width b:=by rw[hX.length];exact F.good.row row (X_ hrow)
 refine#[_,rfl,bA,vs,rfl,.inl (af.of hb),_,rfl,bA,vs,0,_,rfl,rfl,af.of hb,at_of (j:=0) rfl hr0,ra,Bz,rfl,.inl (af.of hra),(by show 4<=sizeLine;decide),λt0 ht0=>#[bu,λwa fi=>?_]];have s4:=ai (o:=HO.tup [V.int 0,V.int 0,V.int (vs.length:Nat),V.int (Bz.length:Nat)]) ht0;have s5:=ai (o:=HO.lst [V.ref t0]) fi;have tU:=s4.trans s5;have nw:∀ {a:Addr} {o:HO},H3 a=some o->a≠wa:=λe z=>by rw[<-z,s4 _ _ e]at fi;cases fi
 have wn:=nw e1;have wp:=nw e2;have we:=nw e3;have mw:H1 wa=none:=Ye.mpr λo e=>by rw[s4 _ _ (s3 _ _ e)]at fi;cases fi
 have ins:=kW F.good;have BA:=sF F.good;refine yd (λσ H'=>Dk λv4 v5 v6 v7 ws st nu pc en=>σ=[some (.ref bA),some (.ref d),some (.ref x),some (.ref wa),v4,v5,v6,v7]/\Told b H1 H' x dx na pa ea wa ws st nu pc en) (λ_ H'=>match H' na with|some (.lst l)=>200-l.length|_=>0) ?_ ?_ (λσ H Q Q' hq ⟨v,e,p,ys,e3,h,i,j,ei,ej,k,ek,q⟩=>#[v,e,p,ys,e3,h,i,j,ei,ej,k,ek,hq _ _ q])
 .refine#[none,none,none,none,_,[Kyq2.whole (Qm.aq b)],[],[],[],rfl,ab,.cons #[t0,rfl,?_] .nil,tU _ _ hx,tU _ _ e1,#[[],tU _ _ e2,.nil],tU _ _ e3,Qm.Run.init ins,s3.trans tU];rw[s5 _ _ ab,ln,lw];rfl
 .rintro σ H' ⟨v4,v5,v6,v7,ws,st,nu,pc,en,rfl,W⟩;have xg:=W.eW.length;rw[Yz]at xg;have cM:=W.run.cM;have XA:Kyq2.seams (Qm.pl (Qm.aq b) (Kyq2.whole (Qm.aq b)))+1<=36:=BA;refine#[_,rfl,wa,ws,rfl,.inl (af.of W.wait),_,_,rfl,rfl,_,rfl,bV (λh=>?_) (λh=>?_)]
  .obtain⟨q,st',rfl⟩:aX λq st'=>st=q::st':=by
    cases st with|nil=>rw[xg]at h;exact absurd h (by decide)|cons q st'=>exact#[q,st',rfl]
   have ar:=W.eW;rw[YA]at ar;obtain⟨gI,av,rfl,ar1,ia⟩:=Paired.mH ar;have hq:=W.run.ins q (by simp);have wx:x≠wa:=λz=>by have:=W.plan;rw[z,W.wait]at this;cases this
   refine#[_,rfl,.inl #[rfl,_,af.of W.wait],wa,_,av,rfl,rfl,W.wait,by simp,?_];rw[YB];have kp:∀c o,H' c=some o->c≠wa->upd H' wa (.lst gI) c=some o:=λc o e n=>by rw[ae n];exact e
   have kt:∀c xs,H' c=some (.tup xs)->upd H' wa (.lst gI) c=some (.tup xs):=λc xs e=>kp c _ e λz=>by rw[z,W.wait]at e;cases e
   have k1:ag H1 (upd H' wa (.lst gI)):=λc o e=>kp c o (W.same _ _ e) (bH e mw);obtain⟨u,eu,iu⟩:=(has q hq).mono λ_ _ e=>k1 _ _ e;obtain⟨cA,rfl,hc⟩:=iu;have ia2:=ia.di kt;obtain⟨aA,rfl,hA⟩:=ia2;refine#[_,rfl,_,rfl,d,.ref cA,rfl,by rw[<-eu];exact ma.t (k1 _ _ hd) hA,_,rfl,cA,_,_,_,rfl,rfl,aI.of hc,rfl,_,rfl,cA,_,_,_,rfl,rfl,aI.of hc,rfl,_,rfl,rfl,_,rfl,bg (λh2=>?_) (λh2=>?_)]
   .have h2:V.int ((cW (Qm.pl (Qm.aq b) q):Nat):Int)=V.int 0:=Yi h2;injection h2 with h2;have pq:=(GV hq).mp (by lia);have R2:=(W.run.piece pq).1;have T6:=R2.cM;obtain⟨ps,hps,j7⟩:=W.kU;have lp:=j7.length;refine#[_,rfl,x,dx,_,rfl,kp _ _ W.plan wx,rfl,_,rfl,_,rfl,_,rfl,.ref bA,b,.ref aA,q,rfl,(ib.mono s1).mono k1,#[aA,rfl,hA],#[F.good,hq],λH5 z tV ip=>?_];have k5:∀c o,H' c=some o->c≠wa->H5 c=some o:=λc o e n=>tV _ _ (kp c o e n);refine#[x,dx,na,pa,ea,.ref aA,z,iv nu,ps,rfl,k5 _ _ W.plan wx,k5 _ _ W.nums wn,k5 _ _ hps wp,d1,by rw[XX];lia,by lia,λH6 t ht p8 tX T7 k6=>?_];have t5:∀c xs,H5 c=some (.tup xs)->H6 c=some (.tup xs):=λc xs e=>k6 c _ e (λz=>by rw[z,k5 _ _ W.nums wn]at e;cases e) λz=>by rw[z,k5 _ _ hps wp]at e;cases e
    have t6:∀c xs,H' c=some (.tup xs)->H6 c=some (.tup xs):=λc xs e=>t5 _ _ (tV _ _ (kt c xs e));refine#[#[_,_,_,_,gI,st',nu++[0],pc++[q],en,rfl,k6 _ _ (tV _ _ ab) (Ne.symm wn) (Ne.symm wp),Paired.aY ar1 λ_ _ z=>z.di t6,k6 _ _ (k5 _ _ W.plan wx) (λz=>?_) (λz=>?_),by rw[p8];simp[iv],#[_,tX,Paired.snoc (Paired.aY j7 λ_ _ z=>z.di t6) #[t,_,_,rfl,T7,#[aA,rfl,t5 _ _ (tV _ _ hA)],?_]],k6 _ _ (k5 _ _ W.ends we) (Ne.symm d2) (Ne.symm d3),R2,λc o e=>k6 _ _ (tV _ _ (k1 _ _ e)) (bH e m1) (bH e m2)],?_]
    .have e:=W.plan;rw[z,W.nums]at e;cases e
    .have e:=W.plan;rw[z,hps]at e;cases e
    .obtain⟨pA,rfl,xh⟩:=ip;exact#[pA,rfl,t5 _ _ xh]
    .rw[p8,W.nums];show 200-(iv nu++[V.int 0]).length<200-(iv nu).length;rw[XY,YE,XX]
     lia
   .have pq:Kyq2.piece (Qm.aq b) q=false:=by
     rw[Z2];intro z;have z2:=(GV hq).mpr z;refine h2 (Yc ?_);show V.int ((cW (Qm.pl (Qm.aq b) q):Nat):Int)=V.int 0;rw[z2];rfl
    have R2:=(W.run.seam pq).1;have T6:=R2.cM;obtain⟨ps,hps,j7⟩:=W.kU;have cond:if cW (Qm.pl (Qm.aq b) q)=1 then fh (Qm.pl (Qm.aq b) q)<=q.w else fh (Qm.pl (Qm.aq b) q)<=q.h:=by
     unfold Qm.pl;rcases sv hq pq with⟨m,_,l,e⟩|⟨m,_,l,e⟩<;>rw[e]
     .exact ZT l
     .exact ZT l
    refine#[_,rfl,x,dx,_,rfl,kp _ _ W.plan wx,rfl,_,rfl,_,rfl,_,rfl,cA,_,_,_,rfl,rfl,aI.of hc,rfl,x,dx,na,pa,ea,_,_,_,iv nu,iv en,rfl,kp _ _ W.plan wx,kp _ _ W.nums wn,kp _ _ W.ends we,d2,by rw[XX];lia,by rw[XX];lia,λH5 Jn T8 k5=>?_];have xn:x≠na:=λz=>by have e:=W.plan;rw[z,W.nums]at e;cases e
    have xe:x≠ea:=λz=>by have e:=W.plan;rw[z,W.ends]at e;cases e
    have w5:H5 wa=some (.lst gI):=k5 _ _ ab (Ne.symm wn) (Ne.symm we);have t5:∀c xs,H' c=some (.tup xs)->H5 c=some (.tup xs):=λc xs e=>k5 c _ (kt c xs e) (λz=>by rw[z,W.nums]at e;cases e) λz=>by rw[z,W.ends]at e;cases e
    have Jo:c5 H5 (.ref aA) q:=#[aA,rfl,k5 aA _ hA (λz=>by rw[z,kp _ _ W.nums wn]at hA;cases hA) λz=>by rw[z,kp _ _ W.ends we]at hA;cases hA]
    refine#[_,rfl,.inl #[rfl,_,af.of w5],_,rfl,_,rfl,_,rfl,.ref aA,q,_,_,rfl,Jo,cond,λH6 z6 s6 i6=>#[wa,gI,_,rfl,rfl,s6 _ _ w5,?_,?_]]
    .rw[XY,YE]at xg;exact Yq (show _<=36 by lia) (by decide)
    have t7:∀c xs,H6 c=some (.tup xs)->upd H6 wa (.lst (gI++[z6])) c=some (.tup xs):=λc xs e=>by rw[ae (λz=>by rw[z,s6 _ _ w5]at e;cases e)];exact e
    refine#[_,rfl,.inl #[rfl,_,af.of ab],_,rfl,_,rfl,_,rfl,.ref aA,q,_,_,rfl,(Jo.mono s6).di t7,cond,λH8 z8 s8 i8=>#[wa,gI++[z6],_,rfl,rfl,s8 _ _ ab,?_,?_]]
    .rw[XY,YE]at xg ⊢;exact Yq (show _<=40 by lia) (by decide)
    have t9:∀c xs,H8 c=some (.tup xs)->upd H8 wa (.lst (gI++[z6]++[z8])) c=some (.tup xs):=λc xs e=>by rw[ae (λz=>by rw[z,s8 _ _ ab]at e;cases e)];exact e
    have Jp:∀c xs,H6 c=some (.tup xs)->upd H8 wa (.lst (gI++[z6]++[z8])) c=some (.tup xs):=λc xs e=>t9 _ _ (s8 _ _ (t7 _ _ e));have Jq:∀c xs,H' c=some (.tup xs)->upd H8 wa (.lst (gI++[z6]++[z8])) c=some (.tup xs):=λc xs e=>Jp _ _ (s6 _ _ (t5 _ _ e));have k9:∀c o,H5 c=some o->c≠wa->upd H8 wa (.lst (gI++[z6]++[z8])) c=some o:=λc o e n=>by rw[ae n];exact s8 _ _ (by rw[ae n];exact s6 _ _ e)
    refine#[#[_,_,_,_,gI++[z6]++[z8],_,_,pc,_,rfl,ab,?_,k9 _ _ (k5 _ _ (kp _ _ W.plan wx) xn xe) wx,?_,#[ps,k9 _ _ (k5 _ _ (kp _ _ hps wp) (Ne.symm d1) d3) wp,Paired.aY j7 λ_ _ z=>z.di Jq],?_,R2,λc o e=>k9 _ _ (k5 _ _ (k1 _ _ e) (bH e m1) (bH e m3)) (bH e mw)],?_]
    .rw[YA,YA];exact Paired.snoc (Paired.snoc (Paired.aY ar1 λ_ _ z=>z.di Jq) (i6.di Jp)) (i8.di t9)
    .rw[k9 _ _ Jn wn];simp[iv];exact#[rfl,rfl]
    .rw[k9 _ _ T8 we];simp[iv]
     first|done|rfl
    .show(match upd H8 wa (.lst (gI++[z6]++[z8])) na with|some (.lst l)=>200-l.length|_=>0)<_;rw[k9 _ _ Jn wn,W.nums];show 200-(iv nu++[_,_]).length<200-(iv nu).length;rw[XY,XX];show 200-(nu.length+2)<200-nu.length
     lia
  .have e:st=[]:=YG.mp (by lia);subst e;obtain⟨f1,f2,f3⟩:=W.run.done;obtain⟨ps,hps,j7⟩:=W.kU;have nn:∀ {a:Addr},H1 a=none->H a=none:=λ{a} h=>Ye.mpr λo e=>by rw[s1 _ _ e]at h;cases h
   refine#[_,rfl,k H' _ (s1.trans W.same) #[x,dx,na,pa,ea,rfl,W.plan,nn m1,nn m2,nn m3,#[na,rfl,?_],#[pa,ps,rfl,hps,?_],#[ea,rfl,?_]]]
   .rw[W.nums,f1];rfl
   .rw[f2]at j7;exact j7
   .rw[W.ends,f3];rfl
open Kyq1 (Exp Patch)
open Kyq (Slots Shop)
def T9:Qm.Acyclic Kyq.none8:=λk h=>by
 have z:∀i,Kyq.direct Kyq.none8 i=[]:=λi=>Gp (by
  unfold Kyq.at_ Kyq.none8;rw[XU,Y2];split<;>rfl)
 exact sf (S:=λ_=>False) (λj hj=>by rw[z]at hj;cases hj) (λi j hi _=>hi) h
def qJ(q:Shop)(k:Nat):List Int:=fR q k λb=>(((Kyq2.numbers (Kyq.planFor (Qm.aq b))).length:Nat):Int)::(Kyq2.numbers (Kyq.planFor (Qm.aq b))).map λn=>((n:Nat):Int)
theorem T_(T:eZ mg)(N:dW K kk.N)(Cp:mP K kk.P)(S:dG K kk.D)(ok:cY.Ok)(D:bI K kk.D "plan" "Designs.plan" (inClass (top 94) 15) ["self","k"])(c6:aF P w K mg base 12 kk.D "refusal" ["self","k"] (lj))
  (lJ:aF P w K mg base 12 kk.N "plan_of" ["self","k"] (wO (bJ))):aF P w K mg base 13 kk.D "plan" ["self","k"] (fS qJ):=by
 refine D.go ["self","k","refused","numbers"] S.cl λnd H vs Q E hr h=>?_;obtain⟨p,q,k,G,rfl,sh,tb,kq⟩:=h;obtain⟨dx,fs,n,ka,ua,bX,ea,dF,dv,bU,hp,F,hnm,hin,l8,ac,O⟩:=sh.cD;have nN:=(S.a7 "names")
 refine#[_,(aC (aR 2 (bq c6 (pv 0) (au (pv 1)))) (aM (aL gu (pv 2) aw) (ax (aV (au (pv 2)))) (aC (aR 3 (aK K (bq lJ (aK K (pv 0)) (au (pv 1))))) (ax (aO jO (aV (au (bO K T.bP (pv 3)))) (pv 3)))))),?_];refine#[_,rfl,p,dx,fs,rfl,hp,F.dg,_,rfl,p,q,k,G,rfl,sh,tb,λH1 sh1 t1 f1=>?_];refine#[_,rfl,_,_,rfl,rfl,_,rfl,bV (λh=>?_) (λh=>?_)]
 .refine#[_,rfl,bu,λr hr0=>kq _ r (sh1.mono (ai hr0)) (t1.mono (ai hr0)) (f1.trans (Fz.same (ai hr0))) ?_];unfold qJ;rw[oo _ h];exact ab
 .obtain⟨e,b,eb,eg⟩:=ly h;have fb:=jW O eb;obtain⟨dX,fs1,n1,tI,tJ,j6,tK,tM,tN,XB,hp1,F1,dY,iU,_⟩:=sh1.cD;refine#[_,rfl,p,kk.D,dX,_,_,rfl,hp1,S.cl,nN,F1.names,n1,j6,_,rfl,iU,rfl,_,rfl,n1,q.slots,k,G,b,rfl,sh1.ok,dY,l8,ac,jA l8 e,eb,fb,t1,λH2 z s2 t2 g2 n2 ip=>?_];have fT:=br.drawn ok dY s2 t1.bK g2 n2 sh1;have f2:=f1.trans (j5 ok sh1.ok dY t1.bK s2);obtain⟨a,jC,na,tY,tZ,rfl,ha,⟨_,ee,hna⟩,_⟩:=ip;cases ee;have ha:=cZ _ _ ha;have hna:=cZ _ _ hna;refine#[a,kk.P,jC,_,_,rfl,ha,Cp.cl,Cp.nN,rfl,_,rfl,na,_,rfl,.inl (af.of hna),bu,λL hL=>?_];have sL:=ai (o:=HO.lst [V.int (((Kyq2.numbers (Kyq.planFor (Qm.aq b))).map λn=>V.int (n:Nat)).length:Nat)]) hL;refine#[_,rfl,L,na,_,_,rfl,rfl,ab,sL _ _ hna,?_,λr hrn=>kq _ r ((fT.mono sL).mono (ai hrn)) ((t2.mono sL).mono (ai hrn)) ((f2.trans (Fz.same sL)).trans (Fz.same (ai hrn))) ?_]
  .rw[XX,nR];have:=sF fb.good;exact X8 (show _<=200 by simp only[X2,YD];lia) (by decide)
  .rw[ab];unfold qJ;rw[eg,XX];show _=some (HO.lst (V.int _::List.map V.int _));rw[oq];rfl
def Ua(O:cb q.slots)(k:Nat):told (Kyq.ofName q k λb=>#[((Kyq2.numbers (Kyq.planFor b)).length:Nat),Kyq2.numbers (Kyq.planFor b)])=qJ q k:=oB O k λb _=>rfl
inductive Jr(vs:List V)(H:Hp)(Q:VK)(E:XK):Prop|mk(p dx:_)(_:vs=[.ref p])(_:H p=some (.ins kk.D dx []))(_:∀H' G,(∀q:Shop,q.slots=Kyq.none8->q.past=[]->q.ahead=[]->br G H' p q)->(∀a∈G.map Prod.snd,H a=none)->cq p H H'->Q .ay H')
def Ub(T:eZ mg)(S:dG K kk.D)(ok:cY.Ok)(F:aX λf fd=>d_ K "__init__" "Designs.__init__" (inClass (top 94) 0) f fd/\Mk K kk.D f/\Binds K fd ["self"] [])(hD:mg "Designs"=some (.ref kk.D))(BB:aH P w K mg base 5 "no_names" [] (HX)):fZ P w K mg base 6 "Designs" kk.D ["self"] (Jr):=by
 obtain⟨f,fd,F,M,b⟩:=F;refine#[hD,f,fd,M,b,F.go ["self"] λnd H vs Q E hr h=>?_];obtain⟨p,dx,rfl,hp,kq⟩:=h;refine#[_,(aC (cj (pv 0) (Oq BB) rfl) (aC (cj (pv 0) (aV eQ) rfl) (bF (cj (pv 0) (aV eQ) rfl)))),?_];refine#[rfl,λH4 n pa s4 nn np gk na=>?_];have xi:=s4 _ _ hp;obtain⟨bX,Uc,hin⟩:=na.ins;have Ud:n≠p:=λz=>by rw[z,hp]at nn;cases nn
 have pap:pa≠p:=λz=>by rw[z,hp]at np;cases np
 refine#[_,rfl,p,kk.D,dx,_,rfl,xi,S.cl,(S.a7 "names"),(by show 0<1000;decide),?_];refine#[Yg _,λka hka=>?_];have kp:p≠ka:=bH ab hka;refine#[_,rfl,p,kk.D,dx,_,rfl,(by rw[ae kp];exact ab),S.cl,(S.a7 "kept"),(by show 1<1000;decide),?_];refine#[Yg _,λua dA=>?_];have up:p≠ua:=bH ab dA;refine#[_,rfl,p,kk.D,dx,_,rfl,(by rw[ae up];exact ab),S.cl,(S.a7 "undone"),(by show 2<1000;decide),?_];have xj:H4 ka=none:=by rw[ae (Ne.symm kp)]at hka;exact hka
 have uk:ua≠ka:=λz=>by rw[z,ae (Ne.symm kp),ab]at dA;cases dA
 have xk:H4 ua=none:=by rw[ae (Ne.symm up),ae uk,ae (Ne.symm up)]at dA;exact dA
 have ef:aQ "undone" (V.ref ua) (aQ "kept" (V.ref ka) (aQ "names" (V.ref n) []))=([("names",V.ref n),("kept",V.ref ka),("undone",V.ref ua)]:List (Str×V)):=by
  rw[show aQ "names" (V.ref n) ([]:List (Str×V))=([("names",V.ref n)]:List (Str×V))from rfl,dy (by decide+kernel),show aQ "kept" (V.ref ka) ([]:List (Str×V))=([("kept",V.ref ka)]:List (Str×V))from rfl,dy (by decide+kernel),dy (by decide+kernel)];rfl
 rw[ef];generalize eH:upd (upd (upd (upd (upd H4 p _) ka (.lst [])) p _) ua (.lst [])) p (HO.ins kk.D dx ([("names",V.ref n),("kept",V.ref ka),("undone",V.ref ua)]:List (Str×V)))=HF;have Ue:HF p=some (.ins kk.D dx ([("names",V.ref n),("kept",V.ref ka),("undone",V.ref ua)]:List (Str×V))):=by rw[<-eH];exact ab
 have hkF:HF ka=some (.lst []):=by rw[<-eH,ae (Ne.symm kp),ae (Ne.symm uk),ae (Ne.symm kp)];exact ab
 have Js:HF ua=some (.lst []):=by rw[<-eH,ae (Ne.symm up)];exact ab
 have t8:∀b o,H4 b=some o->b≠p->HF b=some o:=λb o e nb=>by
  rw[<-eH,ae nb,ae (bH e xk),ae nb,ae (bH e xj),ae nb];exact e
 have nk:ka≠pa:=λz=>by obtain⟨xs,e⟩:=gk.at_ pa (by simp);rw[<-z,xj]at e;cases e
 have nu:ua≠pa:=λz=>by obtain⟨xs,e⟩:=gk.at_ pa (by simp);rw[<-z,xk]at e;cases e
 have none_:∀ {a:Addr},H4 a=none->H a=none:=λ{a} h=>Ye.mpr λo e=>by rw[s4 _ _ e]at h;cases h
 have gF:bT [(p,ua),(p,ka),(n,pa)] HF:=#[by simp;exact#[#[uk,nu],nk],λa h=>by
  simp at h;rcases h with rfl|rfl|rfl
  .exact⟨_,Js⟩
  .exact⟨_,hkF⟩
  .obtain⟨xs,e⟩:=gk.at_ a (by simp);exact#[xs,t8 _ _ e pap]]
 have Ug:ck [(p,ua),(p,ka),(n,pa)] HF n Kyq.none8:=by
  refine na.keep (λo e=>t8 _ _ e Ud) (λa o m e=>t8 _ _ e λz=>?_) (λx h=>X6 _ (X6 _ h)) (jy (λb o e=>t8 _ _ (dQ e).1 (oh xi (Ne.symm ok.pd) e)) λa h=>?_)
  .have m:=congrArg Prod.snd (Y0.mp m);exact pap (by rw[<-z];exact m.symm)
  .have h:a=ua\/a=ka\/a=pa:=by simpa using h
   rcases h with rfl|rfl|rfl
   .exact .inr xk
   .exact .inr xj
   .exact .inl (by simp)
 have only:∀x v,List.lookup x ([("names",V.ref n),("kept",V.ref ka),("undone",V.ref ua)]:List (Str×V))=some v->x∈oj:=λx v h=>by
  by_cases h1:x="names"
  .rw[h1];decide
  by_cases h2:x="kept"
  .rw[h2];decide
  by_cases h3:x="undone"
  .rw[h3];decide
  rw[YK,beq_false_of_ne h1,YK,beq_false_of_ne h2,YK,beq_false_of_ne h3]at h;cases h
 refine kq HF [(p,ua),(p,ka),(n,pa)] (λq e1 e2 e3=>#[gF,#[dx,_,n,ka,ua,[],[],Ue,#[rfl,rfl,rfl,only,by show 3<=100;decide],by simp,by simp,#[#[n,rfl,by rw[e1];exact Ug],by rw[e1];rfl,by rw[e1];exact T9],hkF,by rw[e2];exact .nil,Js,by rw[e3];exact .nil,Ne.symm uk],by rw[e2,e3];decide]) (λa h=>?_) λb o e nb=>t8 b o (s4 _ _ e) nb;have h:a=ua\/a=ka\/a=pa:=by simpa using h
 rcases h with rfl|rfl|rfl
 .exact none_ xk
 .exact none_ xj
 .exact np
open Kyq (Measures)
structure oG(mg:ZQ):Prop extends gH mg where
 BC:mg "max"=none
 wA:mg "sum"=none
 Ax:mg "sorted"=none
inductive Jt(vs:List V)(H:Hp)(Q:VK)(E:XK):Prop|mk(n:Nat)(m:Measures)(_:vs=[.int (n:Nat),.int (m.unit:Nat),.int (m.edge:Nat)])(_:n<=6)(_:Q (.int (Kyq.sideOf m n:Nat)) H)
theorem Uh(D:bx K mg "side_of" (top 20) ["patches","unit","edge"]):aH P w K mg base 1 "side_of" ["patches","unit","edge"] Jt:=by
 refine D.go ["patches","unit","edge"] λnd H vs Q E hr h=>?_;obtain⟨n,m,rfl,hn,k⟩:=h;refine#[_,(ax (aO bS (aO rE (pv 0) (pv 1)) (aO rE aw (pv 2)))),?_];refine#[_,rfl,_,rfl,_,_,rfl,rfl,.inl #[by lia,by lia],_,rfl,_,_,rfl,rfl,.inl #[by decide,by decide],_,_,rfl,rfl,?_];have e:((Kyq.sideOf m n:Nat):Int)=(n:Int)*(m.unit:Int)+2*(m.edge:Int):=by unfold Kyq.sideOf;push_cast;rfl
 rw[e]at k;exact k
inductive Ju(vs:List V)(H:Hp)(Q:VK)(E:XK):Prop|mk(v:V)(q:Rect)(m:Measures)(_:vs=[v,.int (m.unit:Nat),.int (m.edge:Nat)])(_:c5 H v q)(_:q.h<=6)(_:q.w<=6)(_:∀H' z,ag H H'->fG H' z (Kyq.sideOf m (min q.h q.w),Kyq.sideOf m (max q.h q.w))->Q z H')
theorem Ui(T:oG mg)(D:bx K mg "cut_piece" (top 21) ["area","unit","edge"])(xl:aH P w K mg base 1 "side_of" ["patches","unit","edge"] Jt):aH P w K mg base 2 "cut_piece" ["area","unit","edge"] Ju:=by
 refine D.go ["area","unit","edge","shorter","longer"] λnd H vs Q E hr h=>?_;obtain⟨v,q,m,rfl,⟨a,rfl,ha⟩,h6,w6,k⟩:=h;refine#[_,(aC (aR 3 (kG (L7 rfl) (by rfl) T.IS (show bootBuiltins "min"=some (.builtin "min") by decide+kernel) (aU (bE K (pv 0) (aE T.lF)) (bE K (pv 0) (aE T.kh))))) (aC (aR 4 (kG (D1 rfl) (by rfl) T.BC (show bootBuiltins "max"=some (.builtin "max") by decide+kernel) (aU (bE K (pv 0) (aE T.lF)) (bE K (pv 0) (aE T.kh))))) (ax (cU (aU (bh xl (bC (pv 3) (aU (pv 1) (pv 2)))) (bh xl (bC (pv 4) (aU (pv 1) (pv 2))))))))),?_];refine#[_,rfl,a,_,_,_,rfl,rfl,aI.of ha,rfl,_,rfl,a,_,_,_,rfl,rfl,aI.of ha,rfl,_,_,rfl,_,rfl,a,_,_,_,rfl,rfl,aI.of ha,rfl,_,rfl,a,_,_,_,rfl,rfl,aI.of ha,rfl,_,_,rfl,?_];have e1:(if((q.w:Nat):Int)<((q.h:Nat):Int)then((q.w:Nat):Int)else((q.h:Nat):Int))=((min q.h q.w:Nat):Int):=by split<;>lia
 have e2:(if((q.w:Nat):Int)>((q.h:Nat):Int)then((q.w:Nat):Int)else((q.h:Nat):Int))=((max q.h q.w:Nat):Int):=by split<;>lia
 rw[e1,e2];exact#[_,rfl,_,rfl,_,rfl,min q.h q.w,m,rfl,by lia,_,rfl,_,rfl,_,rfl,max q.h q.w,m,rfl,by lia,(by show 2<=sizeLine;decide),λt ht=>k _ _ (ai ht) #[t,rfl,ab]]
inductive BD(H:Hp)(v:V)(L:List (Nat×Nat)):Prop|mk(a vs:_)(_:v=.ref a)(_:H a=some (.lst vs))(_:Paired (fG H) vs L)
def _root_.L2.fG.mono{x:Nat×Nat}(s:ag H H')(h:fG H v x):fG H' v x:=let⟨a,e,k⟩:=h;#[a,e,s _ _ k]
inductive Jv(vs:List V)(H:Hp)(Q:VK)(E:XK):Prop|mk(n:Nat)(m:Measures)(_:vs=[.int (n:Nat),.int (m.unit:Nat),.int (m.edge:Nat)])(_:n<=100)(_:∀H' z,ag H H'->BD H' z (List.replicate ((n+1) / 2) (Kyq.square m))->Q z H')
theorem Uj(D:bx K mg "cut_squares" (top 22) ["parted","unit","edge"]):aH P w K mg base 1 "cut_squares" ["parted","unit","edge"] Jv:=by
 refine D.go ["parted","unit","edge","side"] λnd H vs Q E hr h=>?_;obtain⟨n,m,rfl,hn,k⟩:=h;refine#[_,(aC (aR 3 (aO bS (pv 1) (aO rE aw (pv 2)))) (ax (aO jg (aV (au (cU (aU (pv 3) (pv 3))))) (aO LW (aO bS (pv 0) aw) aw)))),?_];refine#[_,rfl,_,rfl,_,_,rfl,rfl,.inl #[by decide,by decide],_,_,rfl,rfl,?_];have e:((m.unit:Nat):Int)+3*((m.edge:Nat):Int)=((m.unit+3*m.edge:Nat):Int):=by lia
 dsimp only;rw[e];refine#[_,rfl,_,rfl,(by show 2<=sizeLine;decide),λt ht=>#[bu,λZ hZ=>#[_,rfl,_,_,rfl,rfl,_,_,rfl,rfl,#[by decide,by decide],?_]]];have s1:=(ai (o:=HO.tup [V.int ((m.unit+3*m.edge:Nat):Int),V.int ((m.unit+3*m.edge:Nat):Int)]) ht).trans (ai (o:=HO.lst [V.ref t]) hZ);have e2:(((n:Nat):Int)+1) / 2=(((n+1) / 2:Nat):Int):=by lia
 dsimp only;rw[e2];refine#[Z,_,[.ref t],rfl,rfl,ab,by lia,by lia,(by rw[Yd];exact X8 (show _<=100 by simp only[X2,YD];lia) (by decide)),λL hL=>?_];rw[Yd];have s2:=ai (o:=HO.lst (List.replicate ((n+1) / 2) [V.ref t]).flatten) hL;refine k _ _ (s1.trans s2) #[L,_,rfl,ab,?_];have:=Paired.rep (F:=fG (upd (upd (upd H t (.tup [V.int ((m.unit+3*m.edge:Nat):Int),V.int ((m.unit+3*m.edge:Nat):Int)])) Z (.lst [.ref t])) L (.lst (List.replicate ((n+1) / 2) [V.ref t]).flatten))) (l:=[V.ref t]) (m:=[Kyq.square m]) (.cons #[t,rfl,s2 _ _ (ai hZ _ _ ab)] .nil) ((n+1) / 2);have e3:Qm.rep ((n+1) / 2) [Kyq.square m]=List.replicate ((n+1) / 2) (Kyq.square m):=by simp[Qm.rep]
 rw[e3]at this;exact this
inductive Jw(vs:List V)(H:Hp)(Q:VK)(E:XK):Prop|mk(ha fa:Addr)(hs fs:List Nat)(p:Nat×Nat)(wide:Nat)(_:vs=[.ref ha,.ref fa,.int (p.1:Nat),.int (p.2:Nat),.int (wide:Nat)])(_:H ha=some (.lst (hs.map λn=>V.int (n:Nat))))(_:H fa=some (.lst (fs.map λn=>V.int (n:Nat))))(_:hs.length=fs.length)(_:hs.length<=1000)(_:Q (.int (cC wide hs fs p:Nat)) H)
def Jx{x:Nat}(h:l[i]?=some x):(l.map λn=>V.int (n:Nat))[i]?=some (.int (x:Nat)):=by rw[X1,h];rfl
theorem Uk(T:oG mg)(D:bx K mg "strip_for" (top 24) ["heights","filled","height","width","wide"]):aH P w K mg base 1 "strip_for" ["heights","filled","height","width","wide"] Jw:=by
 refine D.go ["heights","filled","height","width","wide","place"] λnd H vs Q E hr h=>?_;obtain⟨ha,fa,hs,fs,p,wide,rfl,h1,h2,el,hl,k⟩:=h;refine#[_,(aC (dq PassesOwn.never rfl (iJ rfl T.eX (au (bO K T.bP (pv 0)))) (bQ 5) (bF (gS (PW.pt (rp (aL bL (a0 K (pv 0) (pv 5)) (pv 2)) (rn (aL dN (aO bS (a0 K (pv 1) (pv 5)) (pv 3)) (pv 4))))) (ax (pv 5)) jK))) (ax (bO K T.bP (pv 0)))),?_];have lz:(hs.zip fs).length=hs.length:=by simp;lia
 have at_:∀ {j:Nat} (hj:j<hs.length),(hs.zip fs)[j]?=some (hs[j],fs[j]'(by lia)):=λ{j} hj=>by rw[XT (by lia),ZI]
 refine#[_,rfl,ha,_,rfl,.inl (af.of h1),_,rfl,by rw[XX];lia,by rw[XX];lia,jM (λi σ H'=>H'=H/\(∃v5,σ=[some (.ref ha),some (.ref fa),some (.int (p.1:Nat)),some (.int (p.2:Nat)),some (.int (wide:Nat)),v5])/\∀j,j<i->∀x,(hs.zip fs)[j]?=some x->(decide (x.1=p.1)&&decide (x.2+p.2<=wide))=false) #[rfl,#[none,rfl],λj hj=>absurd hj (aaF j)] ?_ ?_]
 .rintro i σ H' hi ⟨rfl,⟨v5,rfl⟩,bad⟩;have hi:i<hs.length:=by rw[XX]at hi;lia
  have g1:=Jx (XT hi);have g2:=Jx (XT (show i<fs.length by lia));have next:(decide (hs[i]=p.1)&&decide (fs[i]'(by lia)+p.2<=wide))=false->∀j,j<i+1->∀x,(hs.zip fs)[j]?=some x->(decide (x.1=p.1)&&decide (x.2+p.2<=wide))=false:=λh j hj x hx=>by
   by_cases c:j<i
   .exact bad j c x hx
   .have e:j=i:=by lia
    subst e;rw[at_ hi]at hx;cases hx;exact h
  refine#[_,rfl,_,rfl,ha,_,_,_,rfl,rfl,af.of h1,at_of (j:=i) (by rw[YJ]) g1,_,rfl,rfl,_,rfl,bg (λc1=>#[_,rfl,_,rfl,fa,_,_,_,rfl,rfl,af.of h2,at_of (j:=i) (by rw[YJ]) g2,_,rfl,_,_,rfl,rfl,_,rfl,_,_,rfl,rfl,_,rfl,bg (λc2=>?_) (λc2=>?_)]) (λc1=>g8 ?_)]
  .have c1:V.int ((hs[i]:Nat):Int)=V.int ((p.1:Nat):Int):=Yi c1;injection c1 with c1;have c2:((fs[i]'(by lia):Nat):Int)+((p.2:Nat):Int)<=((wide:Nat):Int):=Yi c2;have e:cC wide hs fs p=i:=by
    unfold cC;rw[List.findIdx_eq (by lia)];refine#[?_,λj hj=>bad j hj _ (XT _)];rw[ZI];simp
    lia
   rw[e]at k;refine#[_,rfl,?_];show Q (.int (0+((i:Nat):Int))) H';rw[YJ];exact k
  .refine#[rfl,#[_,rfl],next ?_];rw[Bool.and_eq_false_iff];refine .inr (Yh λz=>c2 (Yc ?_));show((fs[i]'(by lia):Nat):Int)+((p.2:Nat):Int)<=((wide:Nat):Int)
   lia
  .refine#[rfl,#[_,rfl],next ?_];rw[Bool.and_eq_false_iff];refine .inl (Yh λz=>c1 (Yc ?_));show V.int ((hs[i]:Nat):Int)=V.int ((p.1:Nat):Int);rw[z]
 .rintro σ H' ⟨rfl,⟨v5,rfl⟩,bad⟩;have e:cC wide hs fs p=hs.length:=by
   unfold cC;rw[<-lz,List.findIdx_eq_length];intro x hx;obtain⟨j,hj,rfl⟩:=Y8 hx;exact bad j (by rw[XX];lia) _ (XT hj)
  rw[e]at k;refine#[_,rfl,ha,_,rfl,.inl (af.of h1),?_];rw[XX];exact k
def gJ(m:Measures)(b:Rows)(L:List Rect)(c:Nat):List (Nat×Nat):=(L.filter λq=>iQ (Qm.at2 b q.r q.c) c&&(Qm.at2 b q.r q.c).d==0).map λq=>(Kyq.sideOf m (min q.h q.w),Kyq.sideOf m (max q.h q.w))
def ki(b:Rows)(L:List Rect)(c:Nat):Nat:=(L.filter λq=>iQ (Qm.at2 b q.r q.c) c&&(Qm.at2 b q.r q.c).d != 0).length
def BE(m:Measures)(b:Rows)(L:List Rect)(q:Rect)(c:Nat):gJ m b (L++[q]) c=gJ m b L c++if(iQ (Qm.at2 b q.r q.c) c&&(Qm.at2 b q.r q.c).d==0)=true then[(Kyq.sideOf m (min q.h q.w),Kyq.sideOf m (max q.h q.w))]else[]:=by
 unfold gJ;rw[List.filter_append,Zz,ZM];split<;>rfl
def BF(b:Rows)(L:List Rect)(q:Rect)(c:Nat):ki b (L++[q]) c=ki b L c+if(iQ (Qm.at2 b q.r q.c) c&&(Qm.at2 b q.r q.c).d != 0)=true then 1 else 0:=by
 unfold ki;rw[List.filter_append,XY,ZM];split<;>rfl
inductive Jy(vs:List V)(H:Hp)(Q:VK)(E:XK):Prop|mk(v:V)(b:Rows)(L:List Rect)(c:Nat)(m:Measures)(_:vs=[v,.int (c:Nat),.int (m.unit:Nat),.int (m.edge:Nat)])(_:k_ H v b L)(_:(∀q∈L,q.h<=6/\q.w<=6))(_:L.length<=36)(_:∀H' z,ag H H'->BD H' z (gJ m b L c++List.replicate ((ki b L c+1) / 2) (Kyq.square m))->Q z H')
theorem Ul(T:oG mg)(D:bx K mg "cut_of_colour" (top 23) ["pieces","colour","unit","edge"])(BG:aH P w K mg base 2 "cut_piece" ["area","unit","edge"] Ju)(BH:aH P w K mg base 1 "cut_squares" ["parted","unit","edge"] Jv):aH P w K mg base 3 "cut_of_colour" ["pieces","colour","unit","edge"] Jy:=by
 refine D.go ["pieces","colour","unit","edge","cut","parted","area","patch"] λnd H vs Q E hr h=>?_;obtain⟨v,b,L,c,m,rfl,⟨pa,vs,rfl,hpa,pr⟩,sz,BI,k⟩:=h;refine#[_,(aC (aR 4 (aV eQ)) (aC (aR 5 aw) (aC (dq PassesOwn.never rfl (gq (pv 0)) (uI (n:=2) rfl (gj (bQ 6) (gj (bQ 7) m_))) (bF (gS (rH (vp K) (pv 1) (l7 (E9 K) (pv 7) (gY aw) yt) (by with_unfolding_all rfl)) (bF (gS (aL bL (bE K (pv 7) aw) aw) (bF (cK (c_ X4 Yk Yl fE (pv 4) (au (dO (bh BG (bC (pv 6) (aU (pv 2) (pv 3))))))))) (bF (aR 5 (aO bS (pv 5) aw))))) jK))) (ax (aO jO (pv 4) (bh BH (bC (pv 5) (aU (pv 2) (pv 3))))))))),?_];have ln:=pr.length;refine#[Yg _,λD hD=>#[_,rfl,pa,rfl,#[vs,af.of (ai hD _ _ hpa)],kF (K:=K) (a:=pa) (xs:=vs) (λi σ H'=>c8 λv6 v7 acc=>σ=[some (.ref pa),some (.int (c:Nat)),some (.int (m.unit:Nat)),some (.int (m.edge:Nat)),some (.ref D),some (.int (ki b (L.take i) c:Nat)),v6,v7]/\H' D=some (.lst acc)/\ag H (del H' D)/\Paired (fG (del H' D)) acc (gJ m b (L.take i) c)) #[none,none,[],rfl,ab,by rw[cf hD];exact ag.refl _,.nil] (λi σ H' _ ⟨_,_,_,_,_,s,_⟩=>af.of (bc _ _ (s _ _ hpa))) ?_ ?_]]
 .rintro i x σ H1 hx ⟨v6,v7,acc,rfl,hA,s1,p1⟩;obtain⟨q,hq,⟨t,av,mm,rfl,ht,ia,⟨pA,rfl,xh⟩⟩⟩:=Paired.getL pr hx;have il:=(XZ.mp hq).1;have s1':=s1.trans bc;have tk:L.take (i+1)=L.take i++[q]:=take_snoc hq;obtain⟨h6,w6⟩:=sz q (X_ hq);have inv:gZ (V.int (c:Nat)) [V.int ((Qm.at2 b q.r q.c).a:Nat),V.int ((Qm.at2 b q.r q.c).b:Nat)]=iQ (Qm.at2 b q.r q.c) c:=by
   unfold gZ iQ;simp[gv];rw[Y4];simp
   lia
  refine#[t,_,rfl,aI.of (s1' _ _ ht),rfl,_,_,rfl,_,_,rfl,rfl,_,rfl,_,rfl,1,rfl,pA,_,rfl,aI.of (s1' _ _ xh),?_,λt2 ht2=>?_]
  .show ¬(1=0/\3=3);decide
  have e2:eS [V.int ((Qm.at2 b q.r q.c).d:Nat),V.int ((Qm.at2 b q.r q.c).a:Nat),V.int ((Qm.at2 b q.r q.c).b:Nat)] (some 1) none=[V.int ((Qm.at2 b q.r q.c).a:Nat),V.int ((Qm.at2 b q.r q.c).b:Nat)]:=rfl;rw[e2];have sT:=ai (o:=HO.tup [V.int ((Qm.at2 b q.r q.c).a:Nat),V.int ((Qm.at2 b q.r q.c).b:Nat)]) ht2;have XC:t2≠D:=λz=>by rw[z,hA]at ht2;cases ht2
  have oH:ag (del H1 D) (del (upd H1 t2 (.tup [V.int ((Qm.at2 b q.r q.c).a:Nat),V.int ((Qm.at2 b q.r q.c).b:Nat)])) D):=λx o e=>by
   obtain⟨e1,e3⟩:=iP e;rw[cE e1];exact sT _ _ e3
  have mN:=sT _ _ hA;refine#[t2,_,rfl,.inr (aI.of ab),rfl,rfl,_,rfl,bg (λh=>?_) (λh=>?_)]
  .have h:iQ (Qm.at2 b q.r q.c) c=true:=by rw[<-inv];simpa using h
   refine#[_,rfl,pA,_,_,_,rfl,rfl,aI.of (sT _ _ (s1' _ _ xh)),rfl,rfl,_,rfl,bg (λh0=>?_) (λh0=>?_)]
   .have h0:V.int ((Qm.at2 b q.r q.c).d:Nat)=V.int 0:=Yi h0;injection h0 with h0;have d0:(Qm.at2 b q.r q.c).d=0:=by lia
    refine#[_,rfl,.inl #[rfl,_,af.of mN],D,acc,mN,_,rfl,_,rfl,_,rfl,av,q,m,rfl,ia.mono (s1.trans oH),h6,w6,λH3 z s3 iz hn=>#[D,acc,z,rfl,rfl,ab,?_,?_]]
    .rw[p1.length];have:(gJ m b (L.take i) c).length<=i:=by
      unfold gJ;rw[XX];exact X8 (Za _ _) (by rw[YF];lia)
     exact Yq (show _<=36 by lia) (by decide)
    .rw[L2.d7];refine#[some av,some (.ref pA),acc++[z],?_,ab,?_,?_]
     .rw[tk,BF,h,d0];rfl
     .rw[cf hn];exact(s1.trans oH).trans s3
     .rw[cf hn,tk,BE,h,d0];exact Paired.snoc (Paired.aY p1 λ_ _ z=>(z.mono oH).mono s3) iz
   .have d0:¬(Qm.at2 b q.r q.c).d=0:=λz=>h0 (Yc (by rw[z];rfl));refine#[_,rfl,_,_,rfl,rfl,some av,some (.ref pA),acc,?_,mN,s1.trans oH,?_]
    .rw[tk,BF,h];have:(true&&(Qm.at2 b q.r q.c).d != 0)=true:=by simpa using d0
     rw[if_pos this];rfl
    .rw[tk,BE,h];have:¬(true&&(Qm.at2 b q.r q.c).d==0)=true:=by simpa using d0
     rw[if_neg this,YC];exact Paired.aY p1 λ_ _ z=>z.mono oH
  .have h:iQ (Qm.at2 b q.r q.c) c=false:=by
    rw[<-inv];simpa using h
   refine#[some av,some (.ref pA),acc,?_,mN,s1.trans oH,?_]
   .rw[tk,BF,h];rfl
   .rw[tk,BE,h];show Paired _ acc (gJ m b (L.take i) c++[]);rw[YC];exact Paired.aY p1 λ_ _ z=>z.mono oH
 .rintro σ H1 ⟨v6,v7,acc,rfl,hA,s1,p1⟩;rw[ln,YO]at p1;have l1:ki b L c<=36:=X8 (Za _ _) BI;have l2:=p1.length;have l3:(gJ m b L c).length<=36:=by
   unfold gJ;rw[XX];exact X8 (Za _ _) BI
  rw[ln,YO];refine#[_,rfl,_,rfl,_,rfl,_,rfl,ki b L c,m,rfl,by lia,λH2 z s2 iz=>?_];obtain⟨za,zs,rfl,hz,pz⟩:=iz;have l4:=pz.length;rw[Z_]at l4;refine#[D,za,acc,zs,rfl,rfl,s2 _ _ hA,hz,X8 (show _<=100 by lia) (by decide),λr hr0=>k _ _ (((s1.trans bc).trans s2).trans (ai hr0)) #[r,_,rfl,ab,Paired.app (Paired.aY p1 λ_ _ z=>((z.mono bc).mono s2).mono (ai hr0)) (Paired.aY pz λ_ _ z=>z.mono (ai hr0))]]
abbrev iw(l:List Nat):List V:=l.map λn=>V.int (n:Nat)
def Jz(l:List Nat)(n:Nat):iw l++[V.int (n:Nat)]=iw (l++[n]):=by simp[iw]
def BJ(l:List Nat)(i n:Nat):(iw l).set i (V.int (n:Nat))=iw (l.set i n):=by unfold iw;rw[List.map_set]
theorem JA(l:List Nat):(l.map λn=>((n:Nat):Int)).sum=((l.sum:Nat):Int):=by
 induction l with|nil=>rfl|cons a l ih=>rw[X7,Zj,Zj,ih];lia
inductive JB(vs:List V)(H:Hp)(Q:VK)(E:XK):Prop|mk(v:V)(L:List (Nat×Nat))(wide:Nat)(_:vs=[v,.int (wide:Nat)])(_:BD H v L)(_:L.length<=100)(_:∀H',ag H H'->Q (.int (Kyq3.length wide L:Nat)) H')
theorem Um(T:oG mg)(D:bx K mg "strips_high" (top 25) ["cut","wide"])(BK:aH P w K mg base 1 "strip_for" ["heights","filled","height","width","wide"] Jw):aH P w K mg base 2 "strips_high" ["cut","wide"] JB:=by
 refine D.go ["cut","wide","heights","filled","height","width","place"] λnd H vs Q E hr h=>?_;obtain⟨v,L,wide,rfl,⟨ca,xs,rfl,hca,px⟩,XD,k⟩:=h;refine#[_,(aC (aR 2 (aV eQ)) (aC (aR 3 (aV eQ)) (aC (dq PassesOwn.never rfl (gq (Pj K rfl T.Ax (au (pv 0)) kE)) (uI (n:=2) rfl (gj (bQ 4) (gj (bQ 5) m_))) (aC (aR 6 (bh BK (bC (pv 2) (bC (pv 3) (bC (pv 4) (aU (pv 5) (pv 1))))))) (aM (aL bL (pv 6) (bO K T.bP (pv 2))) (aC (cK (c_ X4 Yk Yl fE (pv 2) (au (pv 4)))) (bF (cK (c_ X4 Yk Yl fE (pv 3) (au aw))))) (bF (o7 (aO bS (a0 K (pv 3) (pv 6)) (pv 5)) (o6 (pv 3) (pv 6) set_list)))))) (ax (kG (y_ K) (by rfl) T.wA (show bootBuiltins "sum"=some (.builtin "sum") by decide+kernel) (au (pv 2))))))),?_];have lx:=px.length;refine#[Yg _,λha JC=>#[Yg _,λfa hfa=>?_]];have s1:=(ai (o:=HO.lst []) JC).trans (ai (o:=HO.lst []) hfa);have hf:ha≠fa:=λz=>by rw[<-z,ab]at hfa;cases hfa
 have fH:H fa=none:=by rw[ae (Ne.symm hf)]at hfa;exact hfa
 refine#[_,rfl,rfl,ca,xs,L,rfl,af.of (s1 _ _ hca),Paired.aY px λ_ _ z=>z.mono s1,by lia,λout qs E2 p1 p2 p3 hE=>?_];have lo:=p3.length;have lq:=p1.length_eq;have s2:=ai (o:=HO.lst out) hE;have nh:∀ {b:Addr} {o:HO},H b=some o->b≠ha:=λe=>bH e JC;refine#[E2,rfl,#[out,af.of ab],kF (K:=K) (a:=E2) (xs:=out) (λi σ H'=>uz λv4 v5 v6 hs fs=>σ=[some (.ref ca),some (.int (wide:Nat)),some (.ref ha),some (.ref fa),v4,v5,v6]/\(qs.take i).foldl (jr wide) ([],[])=(hs,fs)/\hs.length=fs.length/\hs.length<=i/\H' ha=some (.lst (iw hs))/\H' fa=some (.lst (iw fs))/\∀b o,upd (upd (upd H ha (.lst [])) fa (.lst [])) E2 (.lst out) b=some o->b≠ha->b≠fa->H' b=some o)
  #[none,none,none,[],[],rfl,rfl,rfl,X0 _,s2 _ _ (ai hfa _ _ ab),s2 _ _ ab,λb o e _ _=>e] (λi σ H' _ ⟨_,_,_,_,_,_,_,_,_,_,_,kp⟩=>af.of (kp _ _ ab (λz=>by rw[z]at hE;rw[ai hfa _ _ ab]at hE;cases hE) (λz=>by rw[z,ab]at hE;cases hE))) ?_ ?_]
 .rintro i x σ H' hx ⟨v4,v5,v6,hs,fs,rfl,ef,el,li,h1,h2,kp⟩;obtain⟨p,hp,t,rfl,ht⟩:=Paired.getL p3 hx;have il:=(XZ.mp hx).1;have ht':H' t=some (.tup [.int (p.1:Nat),.int (p.2:Nat)]):=kp t _ (s2 _ _ ht) (λz=>by rw[z,ai hfa _ _ ab]at ht;cases ht) (λz=>by rw[z,ab]at ht;cases ht);have tk:(qs.take (i+1)).foldl (jr wide) ([],[])=jr wide (hs,fs) p:=by rw[take_snoc hp,ZC,ef];rfl
  have XE:=QO wide el p;refine#[t,_,rfl,aI.of ht',rfl,_,_,rfl,_,_,rfl,rfl,_,rfl,_,rfl,_,rfl,_,rfl,_,rfl,ha,fa,hs,fs,p,wide,rfl,h1,h2,el,by lia,_,rfl,_,rfl,ha,_,rfl,.inl (af.of h1),rfl,_,rfl,bg (λh=>?_) (λh=>?_)]
  .have h:V.int ((cC wide hs fs p:Nat):Int)=V.int (((iw hs).length:Nat):Int):=Yi h;injection h with h;rw[XX]at h;have h:cC wide hs fs p=hs.length:=by lia
   refine#[_,rfl,.inl #[rfl,_,af.of h1],_,rfl,ha,_,_,rfl,rfl,h1,by rw[XX];exact Yq (show _<=100 by lia) (by decide),?_];have h2':upd H' ha (.lst (iw hs++[.int (p.1:Nat)])) fa=some (.lst (iw fs)):=by rw[ae (Ne.symm hf)];exact h2
   refine#[_,rfl,.inl #[rfl,_,af.of h2'],fa,_,_,rfl,rfl,h2',by rw[XX];exact Yq (show _<=100 by lia) (by decide),?_];have e0:iw fs++[V.int 0]=iw (fs++[0]):=Jz fs 0;rw[e0];have g0:(iw (fs++[0]))[cC wide hs fs p]?=some (V.int ((0:Nat):Int)):=by unfold iw;rw[X1,h,el];simp
   refine#[_,rfl,_,rfl,fa,_,_,_,rfl,rfl,af.of ab,cB g0,_,rfl,_,_,rfl,rfl,_,rfl,_,rfl,fa,_,_,cC wide hs fs p,rfl,rfl,ab,?_,?_]
   .unfold fW;rw[if_pos (by lia),if_pos (by simp;lia),Yd]
   .rw[L2.d7];refine#[_,_,_,hs++[p.1],fs++[0+p.2],rfl,?_,by simp;lia,by simp;lia,?_,?_,λb o e n1 n2=>?_]
    .rw[tk];unfold jr;rw[if_pos h]
    .rw[ae hf,ab,Jz]
    .rw[ab,h,el];show some (HO.lst ((iw (fs++[0])).set fs.length (V.int (((0:Nat):Int)+((p.2:Nat):Int)))))=_;rw[show((0:Nat):Int)+((p.2:Nat):Int)=((0+p.2:Nat):Int) by lia,BJ];simp
    .rw[ae n2,ae n1];exact kp b o e n1 n2
  .have h:¬cC wide hs fs p=hs.length:=λz=>h (Yc (by rw[XX,z]));have Uo:cC wide hs fs p<fs.length:=by lia
   have g0:(iw fs)[cC wide hs fs p]?=some (V.int ((fs.getD (cC wide hs fs p) 0:Nat):Int)):=map_getD Uo;refine#[_,rfl,_,rfl,fa,_,_,_,rfl,rfl,af.of h2,cB g0,_,rfl,_,_,rfl,rfl,_,rfl,_,rfl,fa,_,_,cC wide hs fs p,rfl,rfl,h2,?_,?_]
   .unfold fW;rw[if_pos (by lia),if_pos (by simp;lia),Yd]
   .refine#[_,_,_,hs,fs.set (cC wide hs fs p) (fs.getD (cC wide hs fs p) 0+p.2),rfl,?_,by simp;lia,by lia,?_,?_,λb o e n1 n2=>?_]
    .rw[tk];unfold jr;rw[if_neg h]
    .rw[ae hf];exact h1
    .rw[ab];show some (HO.lst ((iw fs).set _ (V.int (((fs.getD (cC wide hs fs p) 0:Nat):Int)+((p.2:Nat):Int)))))=_;rw[show((fs.getD (cC wide hs fs p) 0:Nat):Int)+((p.2:Nat):Int)=((fs.getD (cC wide hs fs p) 0+p.2:Nat):Int) by lia,BJ]
    .rw[ae n2];exact kp b o e n1 n2
 .rintro σ H' ⟨v4,v5,v6,hs,fs,rfl,ef,el,li,h1,h2,kp⟩;rw[lo,YO]at ef;refine#[_,rfl,ha,hs.map λn=>((n:Nat):Int),rfl,af.of (by rw[Y1];exact h1),?_];have e:=QQ (wide:=wide) p1 p2;rw[ef]at e;have:=k H' λb o e=>kp b o (s2 _ _ (s1 _ _ e)) (nh e) (bH e fH);rw[e]at this;rw[JA];exact this
def BL(F:aZ b):∀q∈Kyq.partsFor (Qm.aq b),Qm.inside (Qm.aq b) q:=λq hq=>(nV (vR (kW F.good)) (kW F.good) q hq).2
theorem JD(F:aZ b){q:Rect}(hq:q∈Kyq.partsFor (Qm.aq b)):Kyq1.cell (Qm.aq b) q.r q.c=Qm.at2 b q.r q.c:=by
 have h:=BL F q hq;refine Qm.hJ F.good ?_;have:=h.2.2.2;have:=h.2.1;have e:(Qm.aq b).w=Qm.width b:=rfl
 lia
def JE(F:aZ b)(m:Measures)(c:Nat):gJ m b (Kyq.partsFor (Qm.aq b)) c++List.replicate ((ki b (Kyq.partsFor (Qm.aq b)) c+1) / 2) (Kyq.square m)=Kyq.cuts m (Qm.aq b) (Kyq.partsFor (Qm.aq b)) c:=by
 rw[QK F];unfold gJ zQ ki zR
 congr 1
 .congr 1
  apply Y3;intro q hq;rw[JD F hq]
 .congr 4
  apply Y3;intro q hq;rw[JD F hq]
inductive JF(vs:List V)(H:Hp)(Q:VK)(E:XK):Prop|mk(v:V)(b:Rows)(c:Nat)(m:Measures)(_:vs=[v,.int (c:Nat),.int (m.wide:Nat),.int (m.unit:Nat),.int (m.edge:Nat)])(_:k_ H v b (Kyq.partsFor (Qm.aq b)))(_:aZ b)(_:∀H' z,ag H H'->bW cG H' z (Kyq.need m (Qm.aq b) (Kyq.partsFor (Qm.aq b)) c)->Q z H')
theorem Uq(T:oG mg)(D:bx K mg "cloth_of_colour" (top 26) ["pieces","colour","wide","unit","edge"])(BN:aH P w K mg base 3 "cut_of_colour" ["pieces","colour","unit","edge"] Jy)(BO:aH P w K mg base 2 "strips_high" ["cut","wide"] JB):
  aH P w K mg base 4 "cloth_of_colour" ["pieces","colour","wide","unit","edge"] JF:=by
 refine D.go ["pieces","colour","wide","unit","edge","cut","height","width"] λnd H vs Q E hr h=>?_;obtain⟨v,b,c,m,rfl,ip,F,k⟩:=h;refine#[_,(aC (aR 5 (bh BN (bC (pv 0) (bC (pv 1) (aU (pv 3) (pv 4)))))) (aM (aL gX (Pd K rfl rfl T.BC (au (rR rfl nd (gq (pv 5)) (fF (own:=[("height",6),("width",7)]) (by rfl)) (λ_ _ _ _ _=>(vB K (n:=2) rfl (gj (bQ 6) (gj (bQ 7) m_)))) (λ_ _ _ _ _=>nF) (λ_ _ _ _ _=>(dO (pv 7))))) aw) (pv 2)) (ax b_) (ax (bh BO (aU (pv 5) (pv 2)))))),?_];have BA:=sF F.good;have lp:(Kyq.partsFor (Qm.aq b)).length<=36:=by unfold Kyq.partsFor;rw[mC];exact BA
 refine#[_,rfl,_,rfl,_,rfl,_,rfl,v,b,Kyq.partsFor (Qm.aq b),c,m,rfl,ip,λq hq=>?_,lp,λH1 z s1 iz=>?_]
 .have h:=BL F q hq;have h1:=h.2.2.1;have h2:=h.2.2.2;have e1:(Qm.aq b).h=b.length:=rfl;have e2:(Qm.aq b).w=Qm.width b:=rfl;have:=F.good.h6;have:=F.good.w6
  lia
 have JG:=iz;have lc:(Kyq.cuts m (Qm.aq b) (Kyq.partsFor (Qm.aq b)) c).length<=100:=by
  rw[<-JE F,XY,Z_];have a1:(gJ m b (Kyq.partsFor (Qm.aq b)) c).length<=36:=by
   unfold gJ;rw[XX];exact X8 (Za _ _) lp
  have a2:ki b (Kyq.partsFor (Qm.aq b)) c<=36:=X8 (Za _ _) lp
  lia
 rw[JE F]at iz JG;generalize eL:Kyq.cuts m (Qm.aq b) (Kyq.partsFor (Qm.aq b)) c=L at iz JG lc;have en:Kyq.need m (Qm.aq b) (Kyq.partsFor (Qm.aq b)) c=if Kyq3.fit m.wide L then some (Kyq3.length m.wide L)else none:=by unfold Kyq.need;rw[eL]
 rw[en]at k;obtain⟨za,zs,rfl,hz,pz⟩:=iz;have lz:=pz.length;refine#[_,rfl,za,rfl,#[zs,af.of hz],λD hD=>vC (J:=gT K za) cG (λ_ _ _ _ _ h=>h) (L.map (·.2)) (dD (by rw[XX];lia)) hD (λj y H5 hy s5 _=>?_) (λH5 s5=>?_) (λH5 acc hA s5 gC=>?_)]
 .rw[X1]at hy;obtain⟨p,hp,rfl⟩:∃p,L[j]?=some p/\p.2=y:=by
   cases e:L[j]? with|none=>rw[e]at hy;cases hy|some p=>rw[e]at hy;exact#[p,rfl,XW hy]
  obtain⟨u,hu',t,rfl,ht⟩:=Paired.get pz hp;have s6:=s5.trans bc;refine#[sG (s6 _ _ hz) (XZ.mp hu').1,λx2 H6 yl=>?_];obtain⟨e1,e2⟩:=sI (s6 _ _ hz) yl;subst e1;rw[hu']at e2;cases e2;exact#[[some v,some (.int (c:Nat)),some (.int (m.wide:Nat)),some (.int (m.unit:Nat)),some (.int (m.edge:Nat)),some (.ref za),some (.int (p.1:Nat)),some (.int (p.2:Nat))],λR hR=>#[t,_,rfl,aI.of (s6 _ _ ht),rfl,_,_,rfl,_,_,rfl,rfl,hR],rfl,ag.refl _,λQ k'=>#[_,rfl,k' _ _ (ag.refl _) rfl]]
 .exact sJ ((s5.trans bc) _ _ hz) (by rw[XX,lz])
 .have s6:=s5.trans bc;have eA:acc=(L.map λp=>((p.2:Nat):Int)).map V.int:=by rw[qf gC,Y1,Y1];rfl
  have go:Kyq3.fit m.wide L=true->∀H',ag H5 H'->∀z,cG H' z (Kyq3.length m.wide L)->Q z H':=λhf H' s z iz=>by
   rw[if_pos hf]at k;exact k H' z ((s1.trans s6).trans s) iz
  have JH:=Paired.aY pz λ_ _ z=>L2.fG.mono s6 z;refine#[D,L.map λp=>((p.2:Nat):Int),0,rfl,rfl,af.of (by rw[<-eA];exact hA),λe=>?_,λmx h1 h2=>?_]
  .have Ur:L=[]:=by simpa using e
   refine#[_,rfl,_,_,rfl,rfl,_,rfl,bg (λh=>?_) (λh=>?_)]
   .have h:(0:Int)>((m.wide:Nat):Int):=Yi h
    lia
   .refine#[_,rfl,_,rfl,.ref za,L,m.wide,rfl,#[za,zs,rfl,s6 _ _ hz,JH],lc,λH7 s7=>go (by rw[Ur];rfl) H7 s7 _ rfl]
  .have iff:mx>((m.wide:Nat):Int)↔Kyq3.fit m.wide L=false:=by
    unfold Kyq3.fit;rw[Z2,ne_eq,YZ];constructor
    .intro h z;obtain⟨p,hp,rfl⟩:=Yp.mp h1;have:=Yi (z p hp)
     lia
    .intro h;apply Int.lt_of_not_ge;intro z;refine h λp hp=>Yc ?_;have:=h2 _ (Zx (f:=λp:Nat×Nat=>((p.2:Nat):Int)) hp)
     lia
   refine#[_,rfl,_,_,rfl,rfl,_,rfl,bg (λh=>?_) (λh=>?_)]
   .have h:=iff.mp (Yi h);rw[h]at k;exact k H5 _ (s1.trans s6) rfl
   .have h:Kyq3.fit m.wide L=true:=by
     cases e:Kyq3.fit m.wide L with|true=>rfl|false=>exact absurd (Yc (iff.mpr e)) h
    exact#[_,rfl,_,rfl,.ref za,L,m.wide,rfl,#[za,zs,rfl,s6 _ _ hz,JH],lc,λH7 s7=>go h H7 s7 _ rfl]
open Kyq (Work)
structure oI(mg:ZQ):Prop extends Glob mg where
 Us:mg "all"=none
 wB:mg "list"=none
 Ut:a8 mg "NO_SUCH_SEAM" (-2)
 Uu:a8 mg "NO_SUCH_PIECE" (-2)
 Uv:a8 mg "NO_SEAM_LEFT" (-6)
 Uw:a8 mg "IS_SEWN" (-17)
 Ux:a8 mg "NOT_WHOLE" (-61)
structure mQ(K:ZX)(C:Addr):Prop where
 cl:d9 K C
 nP:du K C "pieces"
 nE:du K C "ends"
 nS:du K C "sewn"
def zf(pa ea sa:Addr):List (Str×V):=[("pieces",.ref pa),("ends",.ref ea),("sewn",.ref sa)]
def xm(pa ea sa:Addr):(zf pa ea sa).lookup ("sewn":Str)=some (.ref sa):=rfl
structure gK(C:Addr)(H:Hp)(x sa:Addr)(b:Rows)(wk:Work):Prop where
 ex:c8 λdx pa ea=>H x=some (.ins C dx (zf pa ea sa))/\k_ H (.ref pa) b (Kyq.pieces wk)/\dP H (.ref ea) (cX wk.plan 0)
 sewn:H sa=some (.lst ((cF wk).map V.bl))
 ok:f_ wk
 aq:wk.block=Qm.aq b
 mJ:aZ b
 cM:Kyq2.seams wk.plan<=35
 ins:∀q∈Kyq.pieces wk,Qm.inside (Qm.aq b) q
theorem gK.mono{x:Addr}(s:ag H H')(h:gK C H x sa b wk):gK C H' x sa b wk:=by
 obtain⟨⟨dx,pa,ea,h1,h2,h3⟩,h4,h5,h6,h7,h8,h9⟩:=h;exact#[#[dx,pa,ea,s _ _ h1,h2.mono s,h3.mono s],s _ _ h4,h5,h6,h7,h8,h9]
inductive xo(C:Addr)(vs:List V)(H:Hp)(Q:VK)(E:XK):Prop|mk(x sa:Addr)(b:Rows)(wk:Work)(_:vs=[.ref x])(_:gK C H x sa b wk)(_:Q (.int (Kyq.left wk:Nat)) H)
def Uy(Z:mQ K C)(D:bI K C "seams_left" "Sewing.seams_left" (inClass (top 96) 1) ["self"]):aF P w K mg base 1 C "seams_left" ["self"] (xo C):=by
 refine D.go ["self"] Z.cl λnd H vs Q E hr h=>?_;obtain⟨x,sa,b,wk,rfl,⟨⟨dx,pa,ea,hx,_⟩,hs,ok,_⟩,k⟩:=h;refine#[_,(ax (c_ X4 ZW ZY (Fq K) (aK K (pv 0)) (au kE))),?_];refine#[_,rfl,x,C,dx,_,_,rfl,hx,Z.cl,Z.nS,xm _ _ _,.inl #[rfl,_,af.of hs],sa,false,_,rfl,rfl,af.of hs,?_];rw[QC ok];exact k
inductive BP(C:Addr)(vs:List V)(H:Hp)(Q:VK)(E:XK):Prop|mk(x sa:Addr)(b:Rows)(wk:Work)(i:Nat)(_:vs=[.ref x,.int (i:Nat)])(_:gK C H x sa b wk)(_:i<Kyq2.seams wk.plan)(_:∀H',ag H H'->Q (.bl (Kyq.ready wk i)) H')
theorem Uz(T:oI mg)(Z:mQ K C)(D:bI K C "parts_are_whole" "Sewing.parts_are_whole" (inClass (top 96) 2) ["self","i"]):aF P w K mg base 1 C "parts_are_whole" ["self","i"] (BP C):=by
 refine D.go ["self","i"] Z.cl λnd H vs Q E hr h=>?_;obtain⟨x,sa,b,wk,i,rfl,⟨⟨dx,pa,ea,hx,_,⟨_,ee,he⟩⟩,hs,ok,_,_,cM,_⟩,hi,k⟩:=h;cases ee;refine#[_,(ax (kG (Nj rfl) (by rfl) T.Us (show bootBuiltins "all"=some (.builtin "all") by decide+kernel) (au (l7 (pI K) (aK K (pv 0)) (gY (aO bS (pv 1) aw)) (gY (a0 K (aK K (pv 0)) (pv 1))))))),?_];obtain⟨en,hen⟩:∃en,(cX wk.plan 0)[i]?=some en:=#[_,XT (by rw[jX];exact hi)]
 obtain⟨w1,w2,w3⟩:=QE ok hi hen;have g:((cX wk.plan 0).map λn=>V.int (n:Nat))[i]?=some (.int (en:Nat)):=by rw[X1,hen];rfl
 refine#[_,rfl,x,C,dx,_,_,rfl,hx,Z.cl,Z.nS,rfl,_,rfl,_,_,rfl,rfl,_,rfl,_,rfl,x,C,dx,_,_,rfl,hx,Z.cl,Z.nE,rfl,_,rfl,ea,_,_,_,rfl,rfl,af.of he,cB g,_,rfl,sa,_,rfl,af.of hs,λL hL=>?_];have e:eS ((cF wk).map V.bl) (some (((i:Nat):Int)+1)) (some ((en:Nat):Int))=(((cF wk).drop (i+1)).take (en-(i+1))).map V.bl:=by
  unfold eS;rw[show((i:Nat):Int)+1=((i+1:Nat):Int) by lia,HT.nr,HT.nr,XX,mD,aaf (show i+1<=Kyq2.seams wk.plan by lia),aaf w3,aaK,aaJ]
 rw[e];refine#[L,_,rfl,af.of ab,?_];rw[w1];exact k _ (ai hL)
noncomputable def fV(wk:Work)(i:Nat):Work×List Int:=if Kyq2.seams wk.plan<=i then(wk,[-2])else if wk.sewn.contains i then(wk,[-17])else if Kyq.ready wk i=false then(wk,[-61])else({wk with sewn:=i::wk.sewn},[((Kyq.left {wk with sewn:=i::wk.sewn}:Nat):Int)])
inductive JI(C:Addr)(vs:List V)(H:Hp)(Q:VK)(E:XK):Prop|mk(x sa:Addr)(b:Rows)(wk:Work)(i:Nat)(_:vs=[.ref x,.int (i:Nat)])(_:gK C H x sa b wk)(_:∀H' r,gK C H' x sa b (fV wk i).1->(∀c o,H c=some o->c≠sa->H' c=some o)->H' r=some (.lst ((fV wk i).2.map V.int))->Q (.ref r) H')
theorem UA(T:oI mg)(Z:mQ K C)(D:bI K C "seam" "Sewing.seam" (inClass (top 96) 3) ["self","i"])(qK:aF P w K mg base 1 C "parts_are_whole" ["self","i"] (BP C))(lK:aF P w K mg base 1 C "seams_left" ["self"] (xo C)):aF P w K mg base 2 C "seam" ["self","i"] (JI C):=by
 refine D.go ["self","i"] Z.cl λnd H vs Q E hr h=>?_;obtain⟨x,sa,b,wk,i,rfl,sw,k⟩:=h;have xq:=sw;obtain⟨⟨dx,pa,ea,hx,ip,ie⟩,hs,ok,hb,fb,cM,ins⟩:=sw;refine#[_,(aM (aL yh (pv 1) (bO K T.bP (aK K (pv 0)))) (ax (aV (au (aE T.Ut)))) (aM (e_ (a0 K (aK K (pv 0)) (pv 1)) (λ_=>rfl)) (ax (aV (au (aE T.Uw)))) (aM (iG (e_ (bq qK (pv 0) (au (pv 1))) (λ_=>rfl))) (ax (aV (au (aE T.Ux)))) (aC (o7 kE (o6 (aK K (pv 0)) (pv 1) set_list)) (ax (aV (au (eT lK (pv 0))))))))),?_];have ls:((cF wk).map V.bl).length=Kyq2.seams wk.plan:=by rw[XX,mD]
 have ret:∀ {H':Hp} {z:Int},ag H H'->fV wk i=(wk,[z])->∀r,H' r=none->Q (.ref r) (upd H' r (.lst [.int z])):=λ{H' z} s e r hr=>k _ r (by rw[e];exact(xq.mono s).mono (ai hr)) (λc o e _=>ai hr _ _ (s _ _ e)) (by rw[ab,e];rfl);have one:1<=sizeLine:=by decide
 refine#[_,rfl,_,rfl,x,C,dx,_,_,rfl,hx,Z.cl,Z.nS,rfl,sa,_,rfl,.inl (af.of hs),_,_,rfl,rfl,_,rfl,bV (λh=>?_) (λh=>?_)]
 .rw[ls]at h;exact#[one,ret (ag.refl _) (by unfold fV;rw[if_pos (by lia)])]
 rw[ls]at h;have hi:i<Kyq2.seams wk.plan:=by lia
 have g:((cF wk).map V.bl)[i]?=some (.bl (wk.sewn.contains i)):=by rw[X1,mE wk hi];rfl
 refine#[_,rfl,x,C,dx,_,_,rfl,hx,Z.cl,Z.nS,rfl,_,rfl,sa,_,_,_,rfl,rfl,af.of hs,cB g,_,rfl,bg (λh2=>?_) (λh2=>?_)]
 .exact#[one,ret (ag.refl _) (by unfold fV;rw[if_neg (by lia),if_pos h2])]
 refine#[_,rfl,x,dx,_,rfl,hx,rfl,_,rfl,x,sa,b,wk,i,rfl,xq,hi,λH1 s1=>#[_,rfl,bg (λh3=>?_) (λh3=>?_)]]
 .have h3:Kyq.ready wk i=false:=by simpa using h3
  exact#[one,ret s1 (by unfold fV;rw[if_neg (by lia),if_neg h2,if_pos h3])]
 have h3:Kyq.ready wk i=true:=by simpa using h3
 have ef:fV wk i=({wk with sewn:=i::wk.sewn},[((Kyq.left {wk with sewn:=i::wk.sewn}:Nat):Int)]):=by unfold fV;rw[if_neg (by lia),if_neg h2,if_neg (by rw[h3];decide)]
 have hs1:=s1 _ _ hs;have hx1:=s1 _ _ hx;have xs:x≠sa:=λz=>by rw[z,hs]at hx;cases hx
 refine#[_,rfl,x,C,dx,_,_,rfl,hx1,Z.cl,Z.nS,rfl,_,rfl,sa,_,_,i,rfl,rfl,hs1,?_,?_]
 .unfold fW;rw[if_pos (by lia),if_pos (by rw[ls];lia),Yd]
 have BQ:((cF wk).map V.bl).set i (V.bl true)=(cF {wk with sewn:=i::wk.sewn}).map V.bl:=by rw[<-QB wk hi,List.map_set]
 rw[BQ];have ok2:=ok.fN hi (by simpa using h2) h3;have kp:∀c o,H1 c=some o->c≠sa->upd H1 sa (.lst ((cF {wk with sewn:=i::wk.sewn}).map V.bl)) c=some o:=λc o e n=>by rw[ae n];exact e
 have JJ:gK C (upd H1 sa (.lst ((cF {wk with sewn:=i::wk.sewn}).map V.bl))) x sa b {wk with sewn:=i::wk.sewn}:=by
  obtain⟨pA,ps,e1,h1,pp⟩:=ip;obtain⟨eA,e2,h2'⟩:=ie;have tp:∀c xs,H c=some (.tup xs)->upd H1 sa (.lst ((cF {wk with sewn:=i::wk.sewn}).map V.bl)) c=some (.tup xs):=λc xs e=>kp _ _ (s1 _ _ e) λz=>by rw[z,hs]at e;cases e
  have ne0:0<Kyq2.seams wk.plan:=by lia
  have b0:((cF wk).map V.bl)[0]?=some (.bl (wk.sewn.contains 0)):=by rw[X1,mE wk ne0];rfl
  refine#[#[dx,pa,ea,kp _ _ hx1 xs,#[pA,ps,e1,kp _ _ (s1 _ _ h1) λz=>?_,Paired.aY pp λ_ _ z=>z.di tp],#[eA,e2,kp _ _ (s1 _ _ h2') λz=>?_]],ab,ok2,hb,fb,cM,ins]
  .rw[z,hs]at h1;have h1:=XW h1;injection h1 with h1;rw[h1]at b0;obtain⟨q,_,_,_,_,e,_⟩:=Paired.getL pp b0;cases e
  .rw[z,hs]at h2';have h2':=XW h2';injection h2' with h2';rw[h2',X1]at b0;cases q:(cX wk.plan 0)[0]? with|none=>rw[q]at b0;cases b0|some n=>rw[q]at b0;cases b0
 refine#[_,rfl,x,dx,_,rfl,kp _ _ hx1 xs,rfl,x,sa,b,_,rfl,JJ,one,λr hr0=>k _ r (by rw[ef];exact JJ.mono (ai hr0)) (λc o e n=>ai hr0 _ _ (kp _ _ (s1 _ _ e) n)) ?_];rw[ab,ef];rfl
inductive t_(C:Addr)(f:Rows->Work->List Int)(vs:List V)(H:Hp)(Q:VK)(E:XK):Prop|mk(x sa:Addr)(b:Rows)(wk:Work)(_:vs=[.ref x])(_:gK C H x sa b wk)(_:∀H' r,ag H H'->H' r=some (.lst ((f b wk).map V.int))->Q (.ref r) H')
inductive JK(C:Addr)(f:Rows->Work->Nat->List Int)(vs:List V)(H:Hp)(Q:VK)(E:XK):Prop|mk(x sa:Addr)(b:Rows)(wk:Work)(i:Nat)(_:vs=[.ref x,.int (i:Nat)])(_:gK C H x sa b wk)(_:∀H' r,ag H H'->H' r=some (.lst ((f b wk i).map V.int))->Q (.ref r) H')
def mR(_:Rows)(wk:Work):List Int:=match Kyq.nextSeam wk with
 |none=>[-6]
 |some i=>[((i:Nat):Int)]
theorem UB{p:Nat->Bool}(hi:i<n)(hp:p i=true)(no:∀j,j<i->p j=false):(List.range n).find? p=some i:=by
 obtain⟨d,rfl⟩:∃d,n=i+(d+1):=#[n-i-1,by lia]
 rw[List.range_add,List.find?_append,List.find?_eq_none.mpr (λj hj=>by rw[no j (Yb.mp hj)];decide)];rw[List.range_succ_eq_map,X7,Zg];simp[hp]
theorem UC(T:oI mg)(Z:mQ K C)(D:bI K C "next_seam" "Sewing.next_seam" (inClass (top 96) 4) ["self"])(qK:aF P w K mg base 1 C "parts_are_whole" ["self","i"] (BP C)):aF P w K mg base 2 C "next_seam" ["self"] (t_ C mR):=by
 refine D.go ["self","i"] Z.cl λnd H vs Q E hr h=>?_;obtain⟨x,sa,b,wk,rfl,sw,k⟩:=h;have xq:=sw;obtain⟨⟨dx,pa,ea,hx,ip,ie⟩,hs,ok,hb,fb,cM,ins⟩:=sw;refine#[_,(aC (dq PassesOwn.never rfl (iJ rfl T.eX (au (bO K T.bP (aK K (pv 0))))) (bQ 1) (bF (gS (PW.pt (rp (iG (e_ (a0 K (aK K (pv 0)) (pv 1)) (λ_=>rfl))) (rn (e_ (bq qK (pv 0) (au (pv 1))) (λ_=>rfl))))) (ax (aV (au (pv 1)))) jK))) (ax (aV (au (aE T.Uv))))),?_];have ls:((cF wk).map V.bl).length=Kyq2.seams wk.plan:=by rw[XX,mD]
 refine#[_,rfl,x,C,dx,_,_,rfl,hx,Z.cl,Z.nS,rfl,sa,_,rfl,.inl (af.of hs),_,rfl,by rw[ls];lia,by rw[ls];lia,jM (λi σ H'=>∃v1,σ=[some (.ref x),v1]/\ag H H'/\∀j,j<i->(!(wk.sewn.contains j)&&Kyq.ready wk j)=false) #[none,rfl,ag.refl _,λj hj=>absurd hj (aaF j)] ?_ ?_]
 .rintro i σ H1 hi ⟨v1,rfl,s1,no⟩;have hi:i<Kyq2.seams wk.plan:=by rw[ls]at hi;lia
  have g:((cF wk).map V.bl)[i]?=some (.bl (wk.sewn.contains i)):=by rw[X1,mE wk hi];rfl
  have ei:(0:Int)+((i:Nat):Int)=((i:Nat):Int):=YJ _;have more:(!(wk.sewn.contains i)&&Kyq.ready wk i)=false->∀j,j<i+1->(!(wk.sewn.contains j)&&Kyq.ready wk j)=false:=λh j hj=>by
   by_cases c:j<i
   .exact no j c
   .rw[show j=i by lia];exact h
  refine#[_,rfl,x,C,dx,_,_,rfl,s1 _ _ hx,Z.cl,Z.nS,rfl,_,rfl,sa,_,_,_,rfl,rfl,af.of (s1 _ _ hs),at_of (j:=i) ei g,_,rfl,bg (λh=>?_) (λh=>g8 ?_)]
  .have h:wk.sewn.contains i=false:=by simpa using h
   refine#[_,rfl,x,dx,_,rfl,s1 _ _ hx,rfl,_,rfl,x,sa,b,wk,i,(by show[V.ref x,V.int ((0:Int)+((i:Nat):Int))]=_;rw[ei]),xq.mono s1,hi,λH2 s2=>#[_,rfl,bg (λh2=>?_) (λh2=>?_)]]
   .refine#[_,rfl,bu,λr hr0=>k _ r ((s1.trans s2).trans (ai hr0)) ?_];rw[ab];unfold mR Kyq.nextSeam;rw[UB hi (by rw[h,h2];rfl) no];show some (HO.lst [V.int ((0:Int)+((i:Nat):Int))])=_;rw[ei];rfl
   .exact#[_,rfl,s1.trans s2,more (by rw[Bool.not_eq_true]at h2;rw[h2,aai])]
  .have h:wk.sewn.contains i=true:=by simpa using h
   exact#[_,rfl,s1,more (by rw[h];rfl)]
 .rintro σ H1 ⟨v1,rfl,s1,no⟩;rw[ls]at no;refine#[bu,λr hr0=>k _ r (s1.trans (ai hr0)) ?_];rw[ab];unfold mR Kyq.nextSeam;rw[List.find?_eq_none.mpr λj hj=>by rw[no j (by have:=Yb.mp hj;lia)];decide];rfl
def mS(b:Rows)(wk:Work)(i:Nat):List Int:=match(Kyq.pieces wk)[i]? with
 |none=>[-2]
 |some r=>0::([r.r,r.c,r.h,r.w]++Kyq.patchNumbers (Qm.at2 b r.r r.c)).map λn=>((n:Nat):Int)
theorem UD(T:oI mg)(Z:mQ K C)(D:bI K C "piece" "Sewing.piece" (inClass (top 96) 5) ["self","i"]):aF P w K mg base 2 C "piece" ["self","i"] (JK C mS):=by
 refine D.go ["self","i","area","patch"] Z.cl λnd H vs Q E hr h=>?_;obtain⟨x,sa,b,wk,i,rfl,⟨⟨dx,pa,ea,hx,⟨_,ps,ee,hp,pp⟩,ie⟩,hs,ok,hb,fb,cM,ins⟩,k⟩:=h;cases ee;refine#[_,(aM (aL yh (pv 1) (bO K T.bP (aK K (pv 0)))) (ax (aV (au (aE T.Uu)))) (aC (aR 2 (bE K (a0 K (aK K (pv 0)) (pv 1)) aw)) (aC (aR 3 (bE K (a0 K (aK K (pv 0)) (pv 1)) aw)) (ax (aO jO (aO jO (aV (au aw)) (uY (listS K) (by rfl) T.wB (show bootBuiltins "list"=some (.type "list") by decide+kernel) (au (pv 2)))) (uY (listS K) (by rfl) T.wB (show bootBuiltins "list"=some (.type "list") by decide+kernel) (au (pv 3)))))))),?_];have lp:=pp.length;refine#[_,rfl,_,rfl,x,C,dx,_,_,rfl,hx,Z.cl,Z.nP,rfl,pa,ps,rfl,.inl (af.of hp),_,_,rfl,rfl,_,rfl,bV (λh=>?_) (λh=>?_)]
 .refine#[bu,λr hr0=>k _ r (ai hr0) ?_];rw[ab];unfold mS;rw[Yu (by lia)];rfl
 .obtain⟨q,hq⟩:∃q,(Kyq.pieces wk)[i]?=some q:=#[_,XT (by lia)]
  obtain⟨u,hu,t,av,mm,rfl,ht,⟨aA,rfl,hA⟩,⟨pA,rfl,hP⟩⟩:=Paired.get pp hq;refine#[_,rfl,x,C,dx,_,_,rfl,hx,Z.cl,Z.nP,rfl,_,rfl,pa,ps,_,_,rfl,rfl,af.of hp,cB hu,t,_,0,_,rfl,rfl,aI.of ht,rfl,?_];refine#[_,rfl,x,C,dx,_,_,rfl,hx,Z.cl,Z.nP,rfl,_,rfl,pa,ps,_,_,rfl,rfl,af.of hp,cB hu,t,_,1,_,rfl,rfl,aI.of ht,rfl,?_];refine#[bu,λL0 n0=>#[_,rfl,aA,_,rfl,.inr (aI.of (ai n0 _ _ hA)),λL1 n1=>?_]];have s1:=(ai (o:=HO.lst [V.int 0]) n0).trans (ai (o:=HO.lst [V.int (q.r:Nat),V.int (q.c:Nat),V.int (q.h:Nat),V.int (q.w:Nat)]) n1);refine#[L0,L1,_,_,rfl,rfl,ai n1 _ _ ab,ab,(by show 1+4<=sizeLine;decide),λL2 n2=>#[_,rfl,pA,_,rfl,.inr (aI.of (ai n2 _ _ (s1 _ _ hP))),λL3 n3=>?_]];refine#[L2,L3,_,_,rfl,rfl,ai n3 _ _ ab,ab,(by show 5+3<=sizeLine;decide),λr hr0=>k _ r (((s1.trans (ai n2)).trans (ai n3)).trans (ai hr0)) ?_];rw[ab];unfold mS;rw[hq];rfl
def xr(_:Rows)(wk:Work):List Int:=[(((Kyq.pieces wk).length-wk.sewn.length:Nat):Int)]
theorem UE(T:oI mg)(Z:mQ K C)(D:bI K C "parts" "Sewing.parts" (inClass (top 96) 6) ["self"]):aF P w K mg base 2 C "parts" ["self"] (t_ C xr):=by
 refine D.go ["self"] Z.cl λnd H vs Q E hr h=>?_;obtain⟨x,sa,b,wk,rfl,⟨⟨dx,pa,ea,hx,⟨_,ps,ee,hp,pp⟩,ie⟩,hs,ok,hb,fb,cM,ins⟩,k⟩:=h;cases ee;refine#[_,(ax (aV (au (aO dM (bO K T.bP (aK K (pv 0))) (c_ X4 ZW ZY (Fq K) (aK K (pv 0)) (au kE)))))),?_];refine#[_,rfl,x,C,dx,_,_,rfl,hx,Z.cl,Z.nP,rfl,pa,ps,rfl,.inl (af.of hp),_,rfl,x,C,dx,_,_,rfl,hx,Z.cl,Z.nS,xm _ _ _,.inl #[rfl,_,af.of hs],sa,true,_,rfl,rfl,af.of hs,_,_,rfl,rfl,bu,λr hr0=>k _ r (ai hr0) ?_];rw[ab,zP ok,pp.length];have l1:=QD ok;have l2:(Kyq.pieces wk).length=Kyq2.seams wk.plan+1:=mC _ _;show some (HO.lst [V.int ((((Kyq.pieces wk).length:Nat):Int)-((wk.sewn.length:Nat):Int))])=some (HO.lst [V.int (((Kyq.pieces wk).length-wk.sewn.length:Nat):Int)]);rw[show(((Kyq.pieces wk).length:Nat):Int)-((wk.sewn.length:Nat):Int)=(((Kyq.pieces wk).length-wk.sewn.length:Nat):Int) by lia]
inductive JL(C:Addr)(vs:List V)(H:Hp)(Q:VK)(E:XK):Prop|mk(x dx p jC na pa ea:Addr)(n:Nat)(es:List V)(_:vs=[.ref x,.ref p])(_:H x=some (.ins C dx []))(_:H p=some (.ins kk.P jC (pf na pa ea)))(_:H ea=some (.lst es))(_:es.length=n)(_:n<=100)(_:∀H' sa,H' x=some (.ins C dx (zf pa ea sa))->H sa=none->H' sa=some (.lst ((List.replicate n false).map V.bl))->cq x H H'->Q .ay H')
theorem UG(T:oI mg)(Z:mQ K C)(Cp:mP K kk.P)(hC:C≠kk.P)(F:aX λf fd=>d_ K "__init__" "Sewing.__init__" (inClass (top 96) 0) f fd/\Mk K C f/\Binds K fd ["self","plan"] [])(hS:mg "Sewing"=some (.ref C)):fZ P w K mg base 1 "Sewing" C ["self","plan"] (JL C):=by
 obtain⟨f,fd,F,M,b⟩:=F;refine#[hS,f,fd,M,b,F.go ["self","plan"] λnd H vs Q E hr h=>?_];obtain⟨x,dx,p,jC,na,pa,ea,n,es,rfl,hx,hp,he,le,ln,k⟩:=h;refine#[_,(aC (cj (pv 0) (aK K (pv 1)) rfl) (aC (cj (pv 0) (aK K (pv 1)) rfl) (bF (cj (pv 0) (aO jg (aV (au kE)) (bO K T.bP (aK K (pv 1)))) rfl)))),?_];have px:p≠x:=λz=>by
  rw[z,hx]at hp;injection hp with hp;injection hp with hp _ _;exact hC hp
 have ex:ea≠x:=λz=>by rw[z,hx]at he;cases he
 refine#[_,rfl,p,kk.P,jC,_,_,rfl,hp,Cp.cl,Cp.nP,rfl,_,rfl,x,C,dx,_,rfl,hx,Z.cl,Z.nP,(by show 0<1000;decide),?_];refine#[_,rfl,p,kk.P,jC,_,_,rfl,(by rw[ae px];exact hp),Cp.cl,Cp.nE,rfl,_,rfl,x,C,dx,_,rfl,ab,Z.cl,Z.nE,(by show 1<1000;decide),?_];rw[L2.d7];refine#[bu,λB hB=>?_];have sB:=ai (o:=HO.lst [V.bl false]) hB;have xB:x≠B:=bH ab hB;refine#[_,rfl,p,kk.P,jC,_,_,rfl,sB _ _ (by rw[ae px];exact hp),Cp.cl,Cp.nE,rfl,ea,es,rfl,.inl (af.of (sB _ _ (by rw[ae ex];exact he))),B,_,[.bl false],rfl,rfl,ab,by lia,by lia,(by rw[Yd];exact X8 (show _<=100 by simp only[X2,YD];lia) (by decide)),λS hS'=>?_];rw[Yd];have xS:x≠S:=bH (sB _ _ ab) hS';refine#[_,rfl,x,C,dx,_,rfl,(by rw[ae xS,ae xB];exact ab),Z.cl,Z.nS,(by show 2<1000;decide),?_];have ef:aQ "sewn" (V.ref S) (aQ "ends" (V.ref ea) (aQ "pieces" (V.ref pa) []))=zf pa ea S:=by
  rw[show aQ "pieces" (V.ref pa) ([]:List (Str×V))=([("pieces",V.ref pa)]:List (Str×V))from rfl,dy (by decide+kernel),show aQ "ends" (V.ref ea) ([]:List (Str×V))=([("ends",V.ref ea)]:List (Str×V))from rfl,dy (by decide+kernel),dy (by decide+kernel)];rfl
 rw[ef];have SB:S≠B:=λz=>by rw[z,ab]at hS';cases hS'
 have n1:H S=none:=by rw[ae SB,ae (Ne.symm xS)]at hS';exact hS'
 have n2:H B=none:=by rw[ae (Ne.symm xB)]at hB;exact hB
 refine k _ S ab n1 ?_ λc o e nc=>?_
 .rw[ae (Ne.symm xS),ab,le];rw[List.flatten_replicate_singleton,List.map_replicate]
 .rw[ae nc,ae (bH e n1),ae (bH e n2),ae nc];exact e
structure mT(mg:ZQ):Prop extends oG mg where
 UH:mg "zip"=none
 uc:a8 mg "COLOURS" 9
 UI:a8 mg "MOST_AT_ONCE" 1000000
 UJ:a8 mg "MOST_BOUGHT" 1000000000
 qp:a8 mg "NOT_AS_TOLD" (-22)
 UK:a8 mg "TOO_MUCH" (-28)
structure oJ(K:ZX)(C:Addr):Prop where
 cl:d9 K C
 nB:du K C "bought"
 nU:du K C "used"
def tf(ba ua:Addr):List (Str×V):=[("bought",.ref ba),("used",.ref ua)]
structure jD(C:Addr)(H:Hp)(x ba:Addr)(bo us:List Nat):Prop where
 ex:aX λdx ua=>H x=some (.ins C dx (tf ba ua))/\H ua=some (.lst (iw us))/\ba≠ua
 XF:H ba=some (.lst (iw bo))
 l1:bo.length=9
 l2:us.length=9
 le:∀i,i<9->us.getD i 0<=bo.getD i 0
def jD.mono{x:Addr}(s:ag H H')(h:jD C H x ba bo us):jD C H' x ba bo us:=by
 obtain⟨⟨dx,ua,a,b,c⟩,d,e,f,g⟩:=h;exact#[#[dx,ua,s _ _ a,s _ _ b,c],s _ _ d,e,f,g]
def mU(h:i<l.length):(iw l)[i]?=some (V.int ((l.getD i 0:Nat):Int)):=map_getD h
inductive xt(vs:List V)(H:Hp)(Q:VK)(E:XK):Prop|mk(c:Nat)(_:vs=[.int (c:Nat)])(_:Q (.bl (decide (1<=c/\c<=9))) H)
theorem UM(T:mT mg)(D:bx K mg "is_colour" (top 101) ["c"]):aH P w K mg base 1 "is_colour" ["c"] xt:=by
 refine D.go ["c"] λnd H vs Q E hr h=>?_;obtain⟨c,rfl,k⟩:=h;refine#[_,(ax (yk dN dN aw (pv 0) (aE T.uc))),?_];refine#[_,rfl,_,_,rfl,rfl,_,rfl,bV (λh=>?_) (λh=>?_)]
 .refine#[_,_,rfl,rfl,?_];have e:decide (1<=c/\c<=9)=decide (((c:Nat):Int)<=9):=decide_eq_decide.mpr (by lia);rw[e]at k;exact k
 .rw[Yh (show ¬(1<=c/\c<=9) by lia)]at k;exact k
inductive xu(C:Addr)(vs:List V)(H:Hp)(Q:VK)(E:XK):Prop|mk(x ba:Addr)(bo us:List Nat)(c:Nat)(_:vs=[.ref x,.int (c:Nat)])(_:jD C H x ba bo us)(_:1<=c)(_:c<=9)(_:Q (.int (bo.getD (c-1) 0-us.getD (c-1) 0:Nat)) H)
theorem UN(Z:oJ K C)(D:bI K C "on_hand" "Stock.on_hand" (inClass (top 102) 1) ["self","c"]):aF P w K mg base 1 C "on_hand" ["self","c"] (xu C):=by
 refine D.go ["self","c"] Z.cl λnd H vs Q E hr h=>?_;obtain⟨x,ba,bo,us,c,rfl,⟨⟨dx,ua,hx,hu,ne⟩,hb,l1,l2,le⟩,c1,c9,k⟩:=h;refine#[_,(ax (aO dM (a0 K (aK K (pv 0)) (aO dM (pv 1) aw)) (a0 K (aK K (pv 0)) (aO dM (pv 1) aw)))),?_];refine#[_,rfl,x,C,dx,_,_,rfl,hx,Z.cl,Z.nB,rfl,_,rfl,_,_,rfl,rfl,ba,_,_,_,rfl,rfl,af.of hb,at_of (j:=c-1) (by lia) (mU (by lia)),_,rfl,x,C,dx,_,_,rfl,hx,Z.cl,Z.nU,rfl,_,rfl,_,_,rfl,rfl,ua,_,_,_,rfl,rfl,af.of hu,at_of (j:=c-1) (by lia) (mU (by lia)),_,_,rfl,rfl,?_];have:=le (c-1) (by lia);rw[show((bo.getD (c-1) 0-us.getD (c-1) 0:Nat):Int)=((bo.getD (c-1) 0:Nat):Int)-((us.getD (c-1) 0:Nat):Int) by lia]at k;exact k
def hand(bo us:List Nat)(c:Nat):Nat:=bo.getD (c-1) 0-us.getD (c-1) 0
noncomputable def gL(bo us:List Nat)(c n:Nat):List Nat×List Int:=if c<1\/9<c\/n<1\/1000000<n then(bo,[-22])else if 1000000000<bo.getD (c-1) 0+n then(bo,[-28])else(bo.set (c-1) (bo.getD (c-1) 0+n),[((hand bo us c+n:Nat):Int)])
inductive JM(C:Addr)(vs:List V)(H:Hp)(Q:VK)(E:XK):Prop|mk(x ba:Addr)(bo us:List Nat)(c n:Nat)(_:vs=[.ref x,.int (c:Nat),.int (n:Nat)])(_:jD C H x ba bo us)(_:∀H' r,jD C H' x ba (gL bo us c n).1 us->(∀b o,H b=some o->b≠ba->H' b=some o)->H' r=some (.lst ((gL bo us c n).2.map V.int))->Q (.ref r) H')
theorem UO(T:mT mg)(Z:oJ K C)(D:bI K C "buy" "Stock.buy" (inClass (top 102) 2) ["self","c","n"])(lM:aH P w K mg base 1 "is_colour" ["c"] xt)(lN:aF P w K mg base 1 C "on_hand" ["self","c"] (xu C)):aF P w K mg base 2 C "buy" ["self","c","n"] (JM C):=by
 refine D.go ["self","c","n"] Z.cl λnd H vs Q E hr h=>?_;obtain⟨x,ba,bo,us,c,n,rfl,st,k⟩:=h;have st0:=st;obtain⟨⟨dx,ua,hx,hu,ne⟩,hb,l1,l2,le⟩:=st;refine#[_,(aM (PW.pt (m7 (iG (e_ (bh lM (au (pv 1))) (λ_=>rfl))) (o4 (iG (uS dN dN aw (pv 2) (aE T.UI)))))) (ax (aV (au (aE T.qp)))) (aM (aL gX (aO bS (a0 K (aK K (pv 0)) (aO dM (pv 1) aw)) (pv 2)) (aE T.UJ)) (ax (aV (au (aE T.UK)))) (aC (o7 (aO bS (a0 K (aK K (pv 0)) (aO dM (pv 1) aw)) (pv 2)) (o6 (aK K (pv 0)) (aO dM (pv 1) aw) set_list)) (ax (aV (au (bq lN (pv 0) (au (pv 1))))))))),?_];have one:1<=sizeLine:=by decide
 have ret:∀ {z:Int},gL bo us c n=(bo,[z])->∀r,H r=none->Q (.ref r) (upd H r (.lst [.int z])):=λ{z} e r hr=>k _ r (by rw[e];exact st0.mono (ai hr)) (λb o e _=>ai hr _ _ e) (by rw[ab,e];rfl);have bad:(c<1\/9<c\/n<1\/1000000<n)->gL bo us c n=(bo,[-22]):=λh=>by unfold gL;rw[if_pos h]
 refine#[_,rfl,c,rfl,_,rfl,bg (λh=>?_) (λh=>?_)]
 .have h:¬(1<=c/\c<=9):=by simp at h;lia
  exact jj #[one,ret (bad (by lia))]
 have h:1<=c/\c<=9:=by simp at h;lia
 refine#[_,rfl,_,_,rfl,rfl,_,rfl,bg (λh1=>#[_,_,rfl,rfl,_,rfl,bg (λh2=>?_) (λh2=>?_)]) (λh1=>?_)]
 .have h2:¬((n:Nat):Int)<=1000000:=by simpa using h2
  exact#[one,ret (bad (by lia))]
 .have h2:((n:Nat):Int)<=1000000:=by simpa using h2
  have h1:(1:Int)<=((n:Nat):Int):=Yi h1;have gb:(iw bo)[c-1]?=some (V.int ((bo.getD (c-1) 0:Nat):Int)):=mU (by lia);have JN:¬(c<1\/9<c\/n<1\/1000000<n):=by lia
  refine#[_,rfl,x,C,dx,_,_,rfl,hx,Z.cl,Z.nB,rfl,_,rfl,_,_,rfl,rfl,ba,_,_,_,rfl,rfl,af.of hb,at_of (j:=c-1) (by lia) gb,_,rfl,_,_,rfl,rfl,_,_,rfl,rfl,_,rfl,bV (λh3=>?_) (λh3=>?_)]
  .exact#[one,ret (by unfold gL;rw[if_neg JN,if_pos (by lia)])]
  have ef:gL bo us c n=(bo.set (c-1) (bo.getD (c-1) 0+n),[((hand bo us c+n:Nat):Int)]):=by unfold gL;rw[if_neg JN,if_neg (by lia)]
  refine#[_,rfl,x,C,dx,_,_,rfl,hx,Z.cl,Z.nB,rfl,_,rfl,_,_,rfl,rfl,ba,_,_,_,rfl,rfl,af.of hb,at_of (j:=c-1) (by lia) gb,_,rfl,_,_,rfl,rfl,_,rfl,x,C,dx,_,_,rfl,hx,Z.cl,Z.nB,rfl,_,rfl,_,_,rfl,rfl,ba,_,_,c-1,rfl,rfl,hb,?_,?_]
  .unfold fW;rw[if_pos (by lia),if_pos (by simp;lia)];exact congrArg some (by lia)
  have BQ:(iw bo).set (c-1) (V.int (((bo.getD (c-1) 0:Nat):Int)+((n:Nat):Int)))=iw (bo.set (c-1) (bo.getD (c-1) 0+n)):=by
   rw[show((bo.getD (c-1) 0:Nat):Int)+((n:Nat):Int)=((bo.getD (c-1) 0+n:Nat):Int) by lia,BJ]
  rw[BQ];have xb:x≠ba:=λz=>by rw[z,hb]at hx;cases hx
  have kp:∀b o,H b=some o->b≠ba->upd H ba (.lst (iw (bo.set (c-1) (bo.getD (c-1) 0+n)))) b=some o:=λb o e nb=>by rw[ae nb];exact e
  have gs:∀i,i<9->(bo.set (c-1) (bo.getD (c-1) 0+n)).getD i 0=if i=c-1 then bo.getD (c-1) 0+n else bo.getD i 0:=λi hi=>by
   rw[XU,Zi];by_cases z:c-1=i
   .rw[if_pos z,if_pos (by lia),if_pos z.symm];rfl
   .rw[if_neg z,if_neg (Ne.symm z),XU]
  have st2:jD C (upd H ba (.lst (iw (bo.set (c-1) (bo.getD (c-1) 0+n))))) x ba (bo.set (c-1) (bo.getD (c-1) 0+n)) us:=by
   refine#[#[dx,ua,kp _ _ hx xb,kp _ _ hu (Ne.symm ne),ne],ab,by simp[l1],l2,λi hi=>?_];have:=le i hi;have g0:=gs i hi;split at g0
   .rename_i z;subst z;lia
   .lia
  refine#[_,rfl,x,dx,_,rfl,kp _ _ hx xb,rfl,_,rfl,x,ba,_,us,c,rfl,st2,h.1,h.2,?_];have e4:(bo.set (c-1) (bo.getD (c-1) 0+n)).getD (c-1) 0-us.getD (c-1) 0=hand bo us c+n:=by
   have:=le (c-1) (by lia);rw[gs _ (by lia),if_pos rfl];unfold hand
   lia
  rw[e4];exact#[one,λr hr=>k _ r (by rw[ef];exact st2.mono (ai hr)) (λb o e nb=>ai hr _ _ (kp b o e nb)) (by rw[ab,ef];rfl)]
 .have h1:¬(1:Int)<=((n:Nat):Int):=λz=>h1 (Yc z);exact#[_,rfl,jj #[one,ret (bad (by lia))]]
def oK(bo us:List Nat)(c:Nat):List Int:=if c<1\/9<c then[-22]else[((hand bo us c:Nat):Int),((bo.getD (c-1) 0:Nat):Int),((us.getD (c-1) 0:Nat):Int)]
inductive JO(C:Addr)(vs:List V)(H:Hp)(Q:VK)(E:XK):Prop|mk(x ba:Addr)(bo us:List Nat)(c:Nat)(_:vs=[.ref x,.int (c:Nat)])(_:jD C H x ba bo us)(_:∀H' r,ag H H'->H' r=some (.lst ((oK bo us c).map V.int))->Q (.ref r) H')
theorem UP(T:mT mg)(Z:oJ K C)(D:bI K C "cloth" "Stock.cloth" (inClass (top 102) 3) ["self","c"])(lM:aH P w K mg base 1 "is_colour" ["c"] xt)(lN:aF P w K mg base 1 C "on_hand" ["self","c"] (xu C)):aF P w K mg base 2 C "cloth" ["self","c"] (JO C):=by
 refine D.go ["self","c"] Z.cl λnd H vs Q E hr h=>?_;obtain⟨x,ba,bo,us,c,rfl,st,k⟩:=h;have st0:=st;obtain⟨⟨dx,ua,hx,hu,ne⟩,hb,l1,l2,le⟩:=st;refine#[_,(aM (iG (e_ (bh lM (au (pv 1))) (λ_=>rfl))) (ax (aV (au (aE T.qp)))) (ax (aV (bC (bq lN (pv 0) (au (pv 1))) (aU (a0 K (aK K (pv 0)) (aO dM (pv 1) aw)) (a0 K (aK K (pv 0)) (aO dM (pv 1) aw))))))),?_];refine#[_,rfl,c,rfl,_,rfl,bg (λh=>?_) (λh=>?_)]
 .have h:¬(1<=c/\c<=9):=by simp at h;lia
  exact#[by decide,λr hr=>k _ r (ai hr) (by rw[ab];unfold oK;rw[if_pos (by lia)];rfl)]
 have h:1<=c/\c<=9:=by simp at h;lia
 refine#[_,rfl,x,dx,_,rfl,hx,rfl,_,rfl,x,ba,bo,us,c,rfl,st0,h.1,h.2,?_];refine#[_,rfl,x,C,dx,_,_,rfl,hx,Z.cl,Z.nB,rfl,_,rfl,_,_,rfl,rfl,ba,_,_,_,rfl,rfl,af.of hb,at_of (j:=c-1) (by lia) (mU (by lia)),_,rfl,x,C,dx,_,_,rfl,hx,Z.cl,Z.nU,rfl,_,rfl,_,_,rfl,rfl,ua,_,_,_,rfl,rfl,af.of hu,at_of (j:=c-1) (by lia) (mU (by lia)),?_];exact#[dD (by show 3<=1000;decide),λr hr=>k _ r (ai hr) (by rw[ab];unfold oK;rw[if_neg (by lia)];rfl)]
def dh(bo us am:List Nat):List Nat:=(List.range 9).map λi=>am.getD i 0-hand bo us (i+1)
inductive BR(C:Addr)(vs:List V)(H:Hp)(Q:VK)(E:XK):Prop|mk(x ba aa:Addr)(bo us am:List Nat)(_:vs=[.ref x,.ref aa])(_:jD C H x ba bo us)(_:H aa=some (.lst (iw am)))(_:am.length=9)(_:∀H' r,ag H H'->H' r=some (.lst (iw (dh bo us am)))->Q (.ref r) H')
theorem UQ(T:mT mg)(Z:oJ K C)(D:bI K C "lacking" "Stock.lacking" (inClass (top 102) 4) ["self","amounts"])(lN:aF P w K mg base 1 C "on_hand" ["self","c"] (xu C)):aF P w K mg base 2 C "lacking" ["self","amounts"] (BR C):=by
 refine D.go ["self","amounts","c","amount"] Z.cl λnd H vs Q E hr h=>?_;obtain⟨x,ba,aa,bo,us,am,rfl,st,ha,la,k⟩:=h;refine#[_,(ax (rR rfl nd (PD rfl T.He (au (pv 1)) aw) (fF (own:=[("c",2),("amount",3)]) (by rfl)) (λ_ _ _ _ _=>(vB K (n:=2) rfl (gj (bQ 2) (gj (bQ 3) m_)))) (λ_ _ _ _ _=>nF) (λ_ _ _ _ _=>(dO (kG (D1 rfl) (by rfl) T.BC (show bootBuiltins "max"=some (.builtin "max") by decide+kernel) (aU aw (aO dM (pv 3) (bq lN (pv 0) (au (pv 2)))))))))),?_];refine#[_,rfl,rfl,aa,_,rfl,af.of ha,λD hD=>vC (J:=zl K aa) cG (λ_ _ _ _ _ h=>h) (dh bo us am) (dD (by simp[dh])) hD (λj y H5 hy s5 _=>?_) (λH5 s5=>?_) (λH5 acc hA s5 gC=>?_)]
 .have s6:=s5.trans bc;have hj:j<9:=by have:=(XZ.mp hy).1;simpa[dh]using this
  have ey:y=am.getD j 0-hand bo us (j+1):=by
   unfold dh at hy;rw[X1,Yn hj]at hy;exact(XW hy).symm
  have g:(iw am)[j]?=some (V.int ((am.getD j 0:Nat):Int)):=mU (by lia);refine#[#[_,_,af.of (s6 _ _ ha),g],λv H6 yl=>?_];obtain⟨t,u,rfl,ht,rfl,hu⟩:=yl;have hu:=hu _ (af.of (s6 _ _ ha));rw[g]at hu;cases hu;have s7:ag H5 (upd H5 t (.tup [.int ((j+1:Nat):Int),.int ((am.getD j 0:Nat):Int)])):=ai ht;refine#[[some (.ref x),some (.ref aa),some (.int ((j+1:Nat):Int)),some (.int ((am.getD j 0:Nat):Int))],λR hR=>#[t,_,rfl,aI.of ab,rfl,_,_,rfl,_,_,rfl,rfl,hR],rfl,s7,λQ k'=>?_];have s8:ag H (del (upd H5 t (.tup [.int ((j+1:Nat):Int),.int ((am.getD j 0:Nat):Int)])) D):=λb o e=>by
   have bD:b≠D:=bH e hD;rw[cE bD];exact s7 _ _ (s6 _ _ e)
  have JP:=st.mono s8;have UR:=JP;obtain⟨⟨dx,ua,hx,_⟩,_⟩:=JP;refine#[_,rfl,_,rfl,x,dx,_,rfl,hx,rfl,_,rfl,x,ba,bo,us,j+1,rfl,UR,by lia,by lia,_,_,rfl,rfl,_,_,rfl,k' _ _ (ag.refl _) ?_];show V.int _=V.int _
  congr 1
  rw[ey];unfold hand;split<;>lia
 .exact#[_,af.of ((s5.trans bc) _ _ ha),by simp[dh,la]]
 .refine k H5 D (s5.trans bc) ?_;rw[hA,qf gC]
def gf(us am:List Nat):List Nat:=(List.range 9).map λi=>us.getD i 0+am.getD i 0
def US(ba ua u2:Addr):aQ "used" (.ref u2) (tf ba ua)=tf ba u2:=by unfold tf;rw[dy (by decide+kernel),qe]
inductive JQ(C:Addr)(vs:List V)(H:Hp)(Q:VK)(E:XK):Prop|mk(x ba aa:Addr)(bo us am:List Nat)(_:vs=[.ref x,.ref aa])(_:jD C H x ba bo us)(_:H aa=some (.lst (iw am)))(_:am.length=9)(_:∀H' dx ua,H' x=some (.ins C dx (tf ba ua))->H ua=none->H' ua=some (.lst (iw (gf us am)))->cq x H H'->Q .ay H')
theorem UT(T:mT mg)(Z:oJ K C)(D:bI K C "use_up" "Stock.use_up" (inClass (top 102) 5) ["self","amounts"]):aF P w K mg base 1 C "use_up" ["self","amounts"] (JQ C):=by
 refine D.go ["self","amounts","used","amount"] Z.cl λnd H vs Q E hr h=>?_;obtain⟨x,ba,aa,bo,us,am,rfl,st,ha,la,k⟩:=h;obtain⟨⟨dx,ua,hx,hu,ne⟩,hb,l1,l2,le⟩:=st;refine#[_,(bF (cj (pv 0) (rR rfl nd (N9 rfl T.UH (aU (aK K (pv 0)) (pv 1))) (fF (own:=[("used",2),("amount",3)]) (by rfl)) (λ_ _ _ _ _=>(vB K (n:=2) rfl (gj (bQ 2) (gj (bQ 3) m_)))) (λ_ _ _ _ _=>nF) (λ_ _ _ _ _=>(dO (aO bS (pv 2) (pv 3))))) rfl)),?_];refine#[_,rfl,x,C,dx,_,_,rfl,hx,Z.cl,Z.nU,rfl,_,rfl,ua,aa,_,_,rfl,af.of hu,af.of ha,λD hD=>vC (J:=y1 K ua aa) cG (λ_ _ _ _ _ h=>h) (gf us am) (dD (by simp[gf])) hD (λj y H5 hy s5 _=>?_) (λH5 s5=>?_) (λH5 acc hA s5 gC=>?_)]
 .have s6:=s5.trans bc;have hj:j<9:=by have:=(XZ.mp hy).1;simpa[gf]using this
  have ey:y=us.getD j 0+am.getD j 0:=by
   unfold gf at hy;rw[X1,Yn hj]at hy;exact(XW hy).symm
  have g:(iw am)[j]?=some (V.int ((am.getD j 0:Nat):Int)):=mU (by lia);have g1:(iw us)[j]?=some (V.int ((us.getD j 0:Nat):Int)):=mU (by lia);refine#[#[_,_,_,_,af.of (s6 _ _ hu),af.of (s6 _ _ ha),g1,g],λv H6 yl=>?_];obtain⟨t,u1,u2,rfl,ht,rfl,e1,e2⟩:=yl;have e1:=e1 _ (af.of (s6 _ _ hu));have e2:=e2 _ (af.of (s6 _ _ ha));rw[g1]at e1;rw[g]at e2;cases e1;cases e2;refine#[[some (.ref x),some (.ref aa),some (.int ((us.getD j 0:Nat):Int)),some (.int ((am.getD j 0:Nat):Int))],λR hR=>#[t,_,rfl,aI.of ab,rfl,_,_,rfl,_,_,rfl,rfl,hR],rfl,ai ht,λQ k'=>#[_,rfl,_,rfl,_,_,rfl,rfl,k' _ _ (ag.refl _) ?_]];show V.int _=V.int _
  congr 1
  rw[ey]
  lia
 .exact#[_,_,af.of ((s5.trans bc) _ _ hu),af.of ((s5.trans bc) _ _ ha),.inl (by simp[gf,l2])]
 .have s6:=s5.trans bc;refine#[_,rfl,x,C,dx,_,rfl,s6 _ _ hx,Z.cl,Z.nU,(by show 2<1000;decide),?_];rw[US];have xD:D≠x:=Ne.symm (bH hx hD);refine k _ dx D ab hD ?_ λb o e nb=>by rw[ae nb];exact s6 _ _ e
  rw[ae xD,hA,qf gC]
inductive JR(C:Addr)(vs:List V)(H:Hp)(Q:VK)(E:XK):Prop|mk(x dx:Addr)(_:vs=[.ref x])(_:H x=some (.ins C dx []))(_:∀H' ba ua,H' x=some (.ins C dx (tf ba ua))->H ba=none->H ua=none->ba≠ua->H' ba=some (.lst (iw Kyq.nine))->H' ua=some (.lst (iw Kyq.nine))->cq x H H'->Q .ay H')
def UU(T:mT mg)(Z:oJ K C)(F:aX λf fd=>d_ K "__init__" "Stock.__init__" (inClass (top 102) 0) f fd/\Mk K C f/\Binds K fd ["self"] [])(hS:mg "Stock"=some (.ref C)):fZ P w K mg base 1 "Stock" C ["self"] (JR C):=by
 obtain⟨f,fd,F,M,b⟩:=F;refine#[hS,f,fd,M,b,F.go ["self"] λnd H vs Q E hr h=>?_];obtain⟨x,dx,rfl,hx,k⟩:=h;refine#[_,(aC (cj (pv 0) (aO jg (aV (au aw)) (aE T.uc)) rfl) (bF (cj (pv 0) (aO jg (aV (au aw)) (aE T.uc)) rfl))),?_];have n9:(List.replicate (Int.toNat 9) [V.int 0]).flatten=iw Kyq.nine:=rfl;refine#[bu,λB hB=>#[B,_,[.int 0],rfl,rfl,ab,by decide,by decide,by decide,λS hS'=>?_]];rw[n9];have sB:=ai (o:=HO.lst [V.int 0]) hB;have sS:=ai (o:=HO.lst (iw Kyq.nine)) hS';have h1:=sS _ _ (sB _ _ hx);refine#[_,rfl,x,C,dx,_,rfl,h1,Z.cl,Z.nB,(by show 0<1000;decide),?_];have e1:aQ "bought" (V.ref S) []=([("bought",V.ref S)]:List (Str×V)):=rfl;rw[e1];refine#[bu,λB2 hB2=>#[B2,_,[.int 0],rfl,rfl,ab,by decide,by decide,by decide,λU hU=>?_]];rw[n9];have xw:=ai (o:=HO.lst [V.int 0]) hB2;have sU:=ai (o:=HO.lst (iw Kyq.nine)) hU;have xS:x≠S:=bH (sB _ _ hx) hS';have kS:upd (upd (upd (upd H B (.lst [.int 0])) S (.lst (iw Kyq.nine))) x (.ins C dx [("bought",V.ref S)])) B2 (.lst [.int 0]) S=some (.lst (iw Kyq.nine)):=xw _ _ (by rw[ae (Ne.symm xS)];exact ab);have h2:=sU _ _ (xw _ _ ab);refine#[_,rfl,x,C,dx,_,rfl,h2,Z.cl,Z.nU,(by show 1<1000;decide),?_];have e2:aQ "used" (V.ref U) ([("bought",V.ref S)]:List (Str×V))=tf S U:=by rw[dy (by decide+kernel)];rfl
 rw[e2];have SU:S≠U:=bH kS hU;have xU:x≠U:=bH (xw _ _ ab) hU;have xB:x≠B:=bH hx hB;have xB2:x≠B2:=bH ab hB2;have all:∀b o,H b=some o->b≠x->upd (upd (upd (upd H B (.lst [.int 0])) S (.lst (iw Kyq.nine))) x (.ins C dx [("bought",V.ref S)])) B2 (.lst [.int 0]) b=some o:=λb o e nb=>xw _ _ (by rw[ae nb];exact sS _ _ (sB _ _ e));have nS:H S=none:=by
  cases e:H S with|none=>rfl|some o=>rw[sB _ _ e]at hS';cases hS'
 have nU:H U=none:=by
  cases e:H U with|none=>rfl|some o=>rw[all _ _ e (Ne.symm xU)]at hU;cases hU
 refine k _ S U ab nS nU SU ?_ ?_ λb o e nb=>?_
 .rw[ae (Ne.symm xS)];exact sU _ _ kS
 .rw[ae (Ne.symm xU)];exact ab
 .rw[ae nb];exact sU _ _ (all b o e nb)
open Kyq (Slots Shop Measures Work)
structure Kw where
 W:Addr
 T:Addr
 Z:Addr
def ww:Kw:=#[757,653,594]
structure Kw.Ok:Prop where
 wd:ww.W≠kk.D
 wn:ww.W≠kk.N
 td:ww.T≠kk.D
 tn:ww.T≠kk.N
 zd:ww.Z≠kk.D
 zn:ww.Z≠kk.N
 tw:ww.T≠ww.W
 zw:ww.Z≠ww.W
 zt:ww.Z≠ww.T
 wp:ww.W≠kk.P
 tp:ww.T≠kk.P
 zp:ww.Z≠kk.P
noncomputable def wf(m:Measures)(d st:Addr)(wv:V)(n:Nat):List (Str×V):=[("wide",.int (m.wide:Nat)),("unit",.int (m.unit:Nat)),("edge",.int (m.edge:Nat)),("designs",.ref d),("stock",.ref st),("sewing",wv),("done",.int (n:Nat))]
def ud(Hd H:Hp)(B:List Addr)(ba:Addr)(wv:V):Option Work->Prop
 |none=>wv=.ay
 |some wk=>Di λ(x sa:Addr) (b:Rows) (dx pa ea:Addr)=>wv=.ref x/\H x=some (.ins ww.Z dx (zf pa ea sa))/\k_ Hd (.ref pa) b (Kyq.pieces wk)/\dP Hd (.ref ea) (cX wk.plan 0)/\sa∈B/\sa≠ba/\H sa=some (.lst ((cF wk).map V.bl))/\f_ wk/\wk.block=Qm.aq b/\aZ b/\Kyq2.seams wk.plan<=35/\∀q∈Kyq.pieces wk,Qm.inside (Qm.aq b) q
structure WB(G:Gh)(B:List Addr)(H:Hp)(p d st ba ua:Addr)(wv:V)(q:Shop):Prop where
 nd:B.Nodup
 ls:∀a∈B,∃xs,H a=some (.lst xs)
 me:∃dx,H p=some (.ins ww.W dx (wf q.m d st wv q.done))
 sh:br G (off B H) d q
 tb:bJ H
 fB:∃dx,H st=some (.ins ww.T dx (tf ba ua))
 bo:H ba=some (.lst (iw q.bought))
 bi:ba∈B
 us:fz G (off B H) ua=some (.lst (iw q.used))
 l1:q.bought.length=9
 l2:q.used.length=9
 le:∀i,i<9->q.used.getD i 0<=q.bought.getD i 0
 so:q.stock=Kyq.lessAll q.bought q.used
 fN:ud (fz G (off B H)) H B ba wv q.work
inductive dR(H:Hp)(p:Addr)(q:Shop):Prop|mk(G B d st ba ua wv:_)(_:WB G B H p d st ba ua wv q)
def Fr(H H':Hp):Prop:=∀b o u,H b=some (.cJ o u)->H' b=some (.cJ o u)
def Fr.same(s:ag H H'):Fr H H':=λ_ _ _ e=>s _ _ e
def Fr.trans{H1 H2:Hp}(a:Fr H H1)(b:Fr H1 H2):Fr H H2:=λ_ _ _ e=>b _ _ _ (a _ _ _ e)
def Fr.x{c:Addr}{fs:List (Str×V)}(hp:H p=some (.ins c dx fs))(s:cq p H H'):Fr H H':=λb _ _ e=>s _ _ e λz=>by rw[z,hp]at e;cases e
theorem ud.mono{Hd JS:Hp}(sd:ag Hd JS)(hi:∀x dx fs,H x=some (.ins ww.Z dx fs)->H' x=some (.ins ww.Z dx fs))(hl:∀a xs,a∈B->a≠ba->H a=some (.lst xs)->H' a=some (.lst xs))(h:ud Hd H B ba wv wo):ud JS H' B ba wv wo:=by
 cases wo with|none=>exact h|some wk=>
  obtain⟨x,sa,b,dx,pa,ea,e,h1,h2,h3,h4,h5,h6,r⟩:=h;exact#[x,sa,b,dx,pa,ea,e,hi _ _ _ h1,h2.mono sd,h3.mono sd,h4,h5,hl _ _ h4 h5 h6,r]
theorem WB.mono(s:ag H H')(h:WB G B H p d st ba ua wv q):WB G B H' p d st ba ua wv q:=
 #[h.nd,λa m=>let⟨xs,e⟩:=h.ls a m;#[xs,s _ _ e],let⟨dx,e⟩:=h.me;#[dx,s _ _ e],h.sh.mono (zh s),h.tb.mono s,let⟨dx,e⟩:=h.fB;#[dx,s _ _ e],s _ _ h.bo,h.bi,iR (zh s) _ _ h.us,h.l1,h.l2,h.le,h.so,h.fN.mono (iR (zh s)) (λ_ _ _ e=>s _ _ e) (λ_ _ _ _ e=>s _ _ e)]
theorem dR.mono(s:ag H H')(h:dR H p q):dR H' p q:=let⟨G,B,d,st,ba,ua,wv,w⟩:=h;#[G,B,d,st,ba,ua,wv,w.mono s]
def ue(hn:∀a∈B,H' a=none):ag H' (cV B H H'):=λb o e=>by
 rw[jS λz=>by rw[hn b z]at e;cases e];exact e
def JT(hn:∀a∈B,H' a=none):off B (cV B H H')=H':=funext λb=>by
 by_cases c:b∈B
 .rw[Fm c,hn b c]
 .rw[dC c,jS c]
def WB.out(h:WB G B H p d st ba ua wv q){b c:Addr}{fs:List (Str×V)}(e:H b=some (.ins c dx fs)):b∉B:=λz=>by
 obtain⟨xs,e2⟩:=h.ls b z;rw[e]at e2;cases e2
def uf(t:bJ H)(hl:∀a∈B,∃xs,H a=some (.lst xs)):bJ (off B H):=qm _ _ t λb o e _ nl=>by
 rw[dC λz=>by obtain⟨xs,e2⟩:=hl b z;rw[e]at e2;exact nl _ (XW e2)];exact e
def WB.call(ko:Kw.Ok)(h:WB G B H p d st ba ua wv q)(sh:br G' H' d q')(tb:bJ H')(fr:Fz G G' (off B H) H')(hn:∀a∈B,H' a=none)(e1:q'.m=q.m)(e2:q'.bought=q.bought)(e3:q'.used=q.used)(e4:q'.stock=q.stock)(e5:q'.work=q.work)(e6:q'.done=q.done):WB G' B (cV B H H') p d st ba ua wv q':=by
 have so:=ue (H:=H) hn;have eo:=JT (H:=H) hn;have up:∀b c dx fs,c≠kk.D->c≠kk.N->H b=some (.ins c dx fs)->cV B H H' b=some (.ins c dx fs):=λb c dx fs n1 n2 e=>so _ _ (fr.ins b c dx fs (by rw[dC (h.out e)];exact e) n1 n2);refine#[h.nd,λa m=>?_,?_,?_,tb.mono so,?_,?_,h.bi,?_,?_,?_,?_,?_,?_]
 .rw[mj m];exact h.ls a m
 .rw[e1,e6];obtain⟨dx,e⟩:=h.me;exact#[dx,up _ _ _ _ ko.wd ko.wn e]
 .rw[eo];exact sh
 .obtain⟨dx,e⟩:=h.fB;exact#[dx,up _ _ _ _ ko.td ko.tn e]
 .rw[mj h.bi,e2];exact h.bo
 .rw[eo,e3];exact fr.dat _ _ h.us
 .rw[e2];exact h.l1
 .rw[e3];exact h.l2
 .rw[e2,e3];exact h.le
 .rw[e2,e3,e4];exact h.so
 .rw[e5,eo];exact h.fN.mono fr.dat (λx dx fs e=>up _ _ _ _ ko.zd ko.zn e) λa xs m _ e=>by rw[mj m];exact e
theorem WB.fr(h:WB G B H p d st ba ua wv q)(fr:Fz G G' (off B H) H')(hn:∀a∈B,H' a=none):Fr H (cV B H H'):=λb o u e=>ue (H:=H) hn _ _ (fr.cJ b o u (by
 rw[dC λz=>by obtain⟨xs,e2⟩:=h.ls b z;rw[e]at e2;cases e2];exact e))
def WB.ug(h:WB G B H p d st ba ua wv q):jD ww.T H st ba q.bought q.used:=by
 obtain⟨dx,e⟩:=h.fB;have hu:=rW (dQ h.us).1;exact#[#[dx,ua,e,hu.2,λz=>hu.1 (z▸h.bi)],h.bo,h.l1,h.l2,h.le]
def WB.qL(h:WB G B H p d st ba ua wv q)(e:q.work=some wk):c8 λx sa b=>wv=.ref x/\gK ww.Z H x sa b wk/\sa∈B/\sa≠ba:=by
 have s:=h.fN;rw[e]at s;obtain⟨x,sa,b,dx,pa,ea,e,h1,h2,h3,h4,h5,h6,a,b1,c,f,g⟩:=s;have sm:ag (fz G (off B H)) H:=cZ.trans vz;exact#[x,sa,b,e,#[#[dx,pa,ea,h1,h2.mono sm,h3.mono sm],h6,a,b1,c,f,g],h4,h5]
def WB.none_(h:WB G B H p d st ba ua wv q)(e:q.work=none):wv=.ay:=by
 have s:=h.fN;rw[e]at s;exact s
def BS:List Str:=["wide","unit","edge","designs","stock","sewing","done"]
structure fj(K:ZX)(C:Addr):Prop where
 cl:d9 K C
 at_:∀x∈BS,du K C x
def fj.a7(S:fj K C)(x:Str)(h:x∈BS:=by decide):du K C x:=S.at_ x h
def ag.gone(s:ag H H')(h:H' a=none):H a=none:=Ye.mpr λo e=>by rw[s _ _ e]at h;cases h
def ag.uh{x:Addr}(nx:H x=none)(nd:H dx=none)(ne:dx≠x):ag H (upd (upd H dx (.own x)) x (.ins C dx [])):=(ai nd).trans (ai (by rw[ae (Ne.symm ne)];exact nx))
def ag.made{x:Addr}(nx:H x=none)(nd:H dx=none)(ne:dx≠x)(s:cq x (upd (upd H dx (.own x)) x (.ins C dx [])) H'):ag H H':=λb o e=>s _ _ (ag.uh nx nd ne _ _ e) (bH e nx)
section
variable{B':List Addr}{c:Addr}{oi:V}{fs:List (Str×V)}
def gM(hp:H p=some (.ins c dx fs))(h:H a=some (.lst xs)):a≠p:=λz=>by rw[z,hp]at h;cases h
def ui{c' Io:Addr}{fs':List (Str×V)}(hp:H p=some (.ins c dx fs))(h:H a=some (.ins c' Io fs'))(n:c'≠c):a≠p:=λz=>by
 rw[z,hp]at h;injection h with h;injection h with h _ _;exact n h.symm
def xx(hp:H p=some (.ins c dx fs))(n:c≠kk.P)(s:cq p H H'):ag (fz G H) (fz G H'):=jy (λb o e=>s _ _ (dQ e).1 (oh hp n e)) λa h=>.inl h
def BU(hp:H p=some (.ins c dx fs))(s:cq p H H')(t:bJ H):bJ H':=qm _ _ t λb o e n _=>s _ _ e λz=>by rw[z,hp]at e;exact n _ _ _ (XW e).symm
def br.x(hp:H p=some (.ins c dx fs))(n1:c≠kk.D)(n2:c≠kk.N)(n3:c≠kk.P)(s:cq p H H')(h:br G H d q):br G H' d q:=by
 obtain⟨g,⟨gD,tE,n,ka,ua,ks,us,h1,h2,o1,o2,h3,h4,h5,h6,h7,h8⟩,fw⟩:=h;have nm:∀ {v:V} {l:Slots},Nm G H v l->Nm G H' v l:=λ{v l} h=>by
  obtain⟨⟨n,e,r⟩,a,b⟩:=h;obtain⟨bX,Uc,hn⟩:=r.ins;refine#[#[n,e,r.keep (λo e=>s _ _ e (ui hp hn (Ne.symm n2))) (λa o m e=>?_) (λ_ h=>h) (xx hp n3 s)],a,b];obtain⟨xs,hx⟩:=g.at_ a (iA m);exact s _ _ e (gM hp hx)
 exact#[g.to λb xs e _=>#[xs,s _ _ e (gM hp e)],#[gD,tE,n,ka,ua,ks,us,s _ _ h1 (ui hp h1 (Ne.symm n1)),h2,o1,o2,nm h3,s _ _ h4 (gM hp h4),Paired.aY h5 λ_ _ z=>nm z,s _ _ h6 (gM hp h6),Paired.aY h7 λ_ _ z=>nm z,h8],fw]
def br.as(h:br G H d q)(e1:q'.slots=q.slots)(e2:q'.past=q.past)(e3:q'.ahead=q.ahead):br G H d q':=by
 obtain⟨a,b,c⟩:=h;rw[<-e1,<-e2,<-e3]at b;rw[<-e2,<-e3]at c;exact#[a,b,c]
def BV(s:cq p H H')(hB:∀a∈B',a∈B\/H a=none):cq p (off B H) (off B' H'):=λb o e n=>by
 obtain⟨e1,e2⟩:=rW e;rw[dC λz=>?_]
 .exact s _ _ e2 n
 .rcases hB b z with z|z
  .exact e1 z
  .rw[z]at e2;cases e2
def WB.own(ko:Kw.Ok)(h:WB G B H p d st ba ua wv q)(s:cq p H H')(hp':∃dx,H' p=some (.ins ww.W dx (wf q.m d st oi n)))(nd':B'.Nodup)(ls':∀a∈B',∃xs,H' a=some (.lst xs))(hB:∀a∈B',a∈B\/H a=none)(UW:ba∈B')(sw:ud (fz G (off B' H')) H' B' ba oi wo):WB G B' H' p d st ba ua oi {q with work:=wo,done:=n}:=by
 obtain⟨dx,hp⟩:=h.me;have hpo:off B H p=some (.ins ww.W dx (wf q.m d st wv q.done)):=by rw[dC (h.out hp)];exact hp
 have so:=BV (B:=B) (B':=B') s hB;refine#[nd',ls',hp',(h.sh.x hpo ko.wd ko.wn ko.wp so).as rfl rfl rfl,BU hp s h.tb,?_,s _ _ h.bo (gM hp h.bo),UW,xx hpo ko.wp so _ _ h.us,h.l1,h.l2,h.le,h.so,sw];obtain⟨dt,e⟩:=h.fB;exact#[dt,s _ _ e (ui hp e ko.tw)]
def WB.quit(ko:Kw.Ok)(h:WB G B H p d st ba ua wv q)(s:cq p H H')(hp':∃dx,H' p=some (.ins ww.W dx (wf q.m d st .ay n))):WB G B H' p d st ba ua .ay {q with work:=none,done:=n}:=by
 obtain⟨dx,hp⟩:=h.me;exact h.own ko s hp' h.nd (λa m=>let⟨xs,e⟩:=h.ls a m;#[xs,s _ _ e (gM hp e)]) (λa m=>.inl m) h.bi rfl
def WB.use(ko:Kw.Ok)(h:WB G B H p d st ba ua wv q)(s:cq st H H'){dB dt:Addr}(hs':H' st=some (.ins ww.T dt (tf ba dB)))(nu:H dB=none)(hu:H' dB=some (.lst (iw us)))(l2:us.length=9)(le:∀i,i<9->us.getD i 0<=q.bought.getD i 0):WB G B H' p d st ba dB wv {q with used:=us,stock:=Kyq.lessAll q.bought us}:=by
 obtain⟨dx,hs⟩:=h.fB;obtain⟨dw,hp⟩:=h.me;have hso:off B H st=some (.ins ww.T dx (tf ba ua)):=by rw[dC (h.out hs)];exact hs
 have so:=BV (B:=B) (B':=B) s λa m=>.inl m;have ub:dB∉B:=λz=>by obtain⟨xs,e⟩:=h.ls _ z;rw[nu]at e;cases e
 refine#[h.nd,λa m=>let⟨xs,e⟩:=h.ls a m;#[xs,s _ _ e (gM hs e)],#[dw,s _ _ hp (ui hs hp (Ne.symm ko.tw))],(h.sh.x hso ko.td ko.tn ko.tp so).as rfl rfl rfl,BU hs s h.tb,#[dt,hs'],s _ _ h.bo (gM hs h.bo),h.bi,?_,h.l1,l2,le,rfl,?_]
 .refine j3 (by rw[dC ub];exact hu) (h.sh.ok.out ?_);rw[dC ub];exact nu
 .exact h.fN.mono (xx hso ko.tp so) (λx dx fs e=>s _ _ e (ui hs e ko.zt)) λa xs m _ e=>s _ _ e (gM hs e)
def JU(m:a∈B)(s:cq a H H'):ag (off B H) (off B H'):=λb o e=>by
 obtain⟨e1,e2⟩:=rW e;rw[dC e1];exact s _ _ e2 λz=>e1 (z▸m)
def JV(h:H a=some (.lst xs))(s:cq a H H')(t:bJ H):bJ H':=qm _ _ t λb o e _ n=>s _ _ e λz=>by rw[z,h]at e;exact n _ (XW e).symm
theorem WB.bought(h:WB G B H p d st ba ua wv q)(s:cq ba H H')(hb:H' ba=some (.lst (iw bo)))(l1:bo.length=9)(le:∀i,i<9->q.used.getD i 0<=bo.getD i 0):WB G B H' p d st ba ua wv {q with bought:=bo,stock:=Kyq.lessAll bo q.used}:=by
 have so:=JU h.bi s;obtain⟨dx,hs⟩:=h.fB;obtain⟨dw,hp⟩:=h.me;have ne:∀ {x c dx:Addr} {fs:List (Str×V)},H x=some (.ins c dx fs)->x≠ba:=λe=>Ne.symm (gM e h.bo);refine#[h.nd,λa m=>?_,#[dw,s _ _ hp (ne hp)],(h.sh.mono so).as rfl rfl rfl,JV h.bo s h.tb,#[dx,s _ _ hs (ne hs)],hb,h.bi,iR so _ _ h.us,l1,h.l2,le,rfl,?_]
 .by_cases z:a=ba
  .exact#[_,by rw[z];exact hb]
  .obtain⟨xs,e⟩:=h.ls a m;exact#[xs,s _ _ e z]
 .exact h.fN.mono (iR so) (λx dx fs e=>s _ _ e (ne e)) λa xs m n e=>s _ _ e n
theorem WB.sewn(h:WB G B H p d st ba ua wv q){x:Addr}{eM:Work}(ew:q.work=some wk)(ex:wv=.ref x)(UX:gK ww.Z H x sa b wk)(m:sa∈B)(nb:sa≠ba)(s:cq sa H H')(UY:gK ww.Z H' x sa b eM)(e1:eM.block=wk.block)(e2:eM.plan=wk.plan):WB G B H' p d st ba ua wv {q with work:=some eM}:=by
 have so:=JU m s;obtain⟨dx,hs⟩:=h.fB;obtain⟨dw,hp⟩:=h.me;obtain⟨⟨dz,pa,ea,hx,ip,ie⟩,hsa,ok,hb,fb,cM,ins⟩:=UX;obtain⟨⟨XG,qk,tq,hx',XH,XI⟩,hsa',ok',hb',XJ,XM,ins'⟩:=UY;have ne:∀ {x c dx:Addr} {fs:List (Str×V)},H x=some (.ins c dx fs)->x≠sa:=λe=>Ne.symm (gM e hsa);refine#[h.nd,λa m=>?_,#[dw,s _ _ hp (ne hp)],(h.sh.mono so).as rfl rfl rfl,JV hsa s h.tb,#[dx,s _ _ hs (ne hs)],s _ _ h.bo (Ne.symm nb),h.bi,iR so _ _ h.us,h.l1,h.l2,h.le,h.so,?_]
 .by_cases z:a=sa
  .exact#[_,by rw[z];exact hsa']
  .obtain⟨xs,e⟩:=h.ls a m;exact#[xs,s _ _ e z]
 .have sw:=h.fN;rw[ew]at sw;obtain⟨x2,UZ,b2,gD,bU,wQ,e,g1,g2,g3,g4,g5,g6,a,b1,c,f,g⟩:=sw;rw[ex]at e;cases e;have ep:Kyq.pieces eM=Kyq.pieces wk:=by unfold Kyq.pieces;rw[e1,e2]
  rw[hx]at g1;injection g1 with g1;injection g1 with _ _ g1;have g7:(zf pa ea sa).lookup ("sewn":Str)=(zf bU wQ UZ).lookup ("sewn":Str):=by rw[g1]
  rw[xm,xm]at g7;injection g7 with g7;injection g7 with g7;subst g7;exact#[x,sa,b2,dz,bU,wQ,ex,by rw[<-g1];exact s _ _ hx (ne hx),by rw[ep];exact g2.mono (iR so),by rw[e2];exact g3.mono (iR so),m,nb,hsa',ok',by rw[e1];exact b1,c,by rw[e2];exact f,by rw[ep];exact g]
end
def Old(fs:List (Str×V)):Prop:=fs=[]\/uz λm d st wv n=>fs=wf m d st wv n
def Old.cM{fs:List (Str×V)}(h:Old fs):fs.length<=7:=by
 rcases h with rfl|⟨m,d,st,wv,n,rfl⟩
 .exact Yg _
 .exact X0 _
def xA(f:Str)(v:V):aQ f v []=[(f,v)]:=rfl
def U0{fs:List (Str×V)}(h:Old fs)(m:Measures)(d st:Addr):aQ "done" (.int 0) (aQ "sewing" .ay (aQ "stock" (.ref st) (aQ "designs" (.ref d) (aQ "edge" (.int (m.edge:Nat)) (aQ "unit" (.int (m.unit:Nat)) (aQ "wide" (.int (m.wide:Nat)) fs))))))=wf m d st .ay 0:=by
 rcases h with rfl|⟨m2,d2,st2,XN,n2,rfl⟩
 .repeat first|rw[xA]|rw[qe]|rw[dy (by decide+kernel)]
  rfl
 .unfold wf
  repeat first|rw[xA]|rw[qe]|rw[dy (by decide+kernel)]
  rfl
def BW(m:Measures)(d st:Addr)(wv oi:V)(n:Nat):aQ "sewing" oi (wf m d st wv n)=wf m d st oi n:=by
 unfold wf
 repeat first|rw[xA]|rw[qe]|rw[dy (by decide+kernel)]
def U1(m:Measures)(d st:Addr)(wv:V)(n n':Nat):aQ "done" (.int (n':Nat)) (wf m d st wv n)=wf m d st wv n':=by
 unfold wf
 repeat first|rw[xA]|rw[qe]|rw[dy (by decide+kernel)]
inductive JW(vs:List V)(H:Hp)(Q:VK)(E:XK):Prop|mk(m:Measures)(_:vs=[.int (m.wide:Nat),.int (m.unit:Nat),.int (m.edge:Nat)])(_:Q (.bl (Kyq.okMeasures m)) H)
theorem U2(D:bx K mg "measures_fit" (top 133) ["wide","unit","edge"]):aH P w K mg base 1 "measures_fit" ["wide","unit","edge"] JW:=by
 refine D.go ["wide","unit","edge"] λnd H vs Q E hr h=>?_;obtain⟨⟨a,b,c⟩,rfl,q⟩:=h;refine#[_,(ax (xZ (yk dN dN aw (pv 0) aw) (xZ (yk dN dN aw (pv 1) aw) (Dy (vq dN (pv 2) aw))))),?_];have no:∀ {x:Bool},Kyq.okMeasures #[a,b,c]=x->x=false->Q (.bl false) H:=λ{x} e1 e2=>by rw[<-e2,<-e1];exact q
 have k3:∀ {z:Prop} [Decidable z],(Kyq.okMeasures #[a,b,c]=true->z)->¬z->Q (.bl false) H:=λ{z} _ f n=>by
  cases e:Kyq.okMeasures #[a,b,c]with|true=>exact absurd (f e) n|false=>rw[e]at q;exact q
 have un:Kyq.okMeasures #[a,b,c]=true↔200<=a/\a<=3000/\10<=b/\b<=200/\c<=20:=by
  unfold Kyq.okMeasures;simp only[Ya,Yx]
  lia
 refine#[_,rfl,_,_,rfl,rfl,_,rfl,bg (λh1=>?_) (λh1=>?_)]
 .have h1:(200:Int)<=a:=Yi h1;refine#[_,_,rfl,rfl,_,rfl,bg (λh2=>?_) (λh2=>?_)]
  .have h2:(a:Int)<=3000:=Yi h2;refine#[_,rfl,_,_,rfl,rfl,_,rfl,bg (λh3=>?_) (λh3=>?_)]
   .have h3:(10:Int)<=b:=Yi h3;refine#[_,_,rfl,rfl,_,rfl,bg (λh4=>?_) (λh4=>?_)]
    .have h4:(b:Int)<=200:=Yi h4;refine#[_,rfl,_,_,rfl,rfl,?_];have e:decide ((c:Int)<=20)=Kyq.okMeasures #[a,b,c]:=by
      rw[Y4,un,Yx]
      lia
     show Q (.bl (decide ((c:Int)<=20))) H;rw[e];exact q
    .have h4:¬(b:Int)<=200:=λz=>h4 (Yc z);exact k3 (z:=(b:Int)<=200) (λe=>by have:=un.mp e;lia) h4
   .have h3:¬(10:Int)<=b:=λz=>h3 (Yc z);exact#[_,rfl,g8 (k3 (z:=(10:Int)<=b) (λe=>by have:=un.mp e;lia) h3)]
  .have h2:¬(a:Int)<=3000:=λz=>h2 (Yc z);exact k3 (z:=(a:Int)<=3000) (λe=>by have:=un.mp e;lia) h2
 .have h1:¬(200:Int)<=a:=λz=>h1 (Yc z);exact#[_,rfl,g8 (k3 (z:=(200:Int)<=a) (λe=>by have:=un.mp e;lia) h1)]
inductive BX(vs:List V)(H:Hp)(Q:VK)(E:XK):Prop|mk(p dx:Addr)(fs:List (Str×V))(m:Measures)(_:vs=[.ref p,.int (m.wide:Nat),.int (m.unit:Nat),.int (m.edge:Nat)])(_:H p=some (.ins ww.W dx fs))(_:Old fs)(_:bJ H)(_:∀H',dR H' p (Kyq.begun m)->cq p H H'->Q .ay H')
theorem U3(ko:Kw.Ok)(S:fj K ww.W)(D:bI K ww.W "clear_out" "Workshop.clear_out" (inClass (top 134) 1) ["self","wide","unit","edge"])(BY:fZ P w K mg base 6 "Designs" kk.D ["self"] (Jr))(BZ:fZ P w K mg base 1 "Stock" ww.T ["self"] (JR ww.T)):aF P w K mg base 8 ww.W "clear_out" ["self","wide","unit","edge"] (BX):=by
 refine D.go ["self","wide","unit","edge"] S.cl λnd H vs Q E hr h=>?_;obtain⟨p,dx,fs,m,rfl,hp,old,tb,kq⟩:=h;have cM:=old.cM;refine#[_,(aC (cj (pv 0) (pv 1) rfl) (aC (cj (pv 0) (pv 2) rfl) (aC (cj (pv 0) (pv 3) rfl) (aC (cj (pv 0) (vm BY) rfl) (aC (cj (pv 0) (vm BZ) rfl) (aC (cj (pv 0) b_ rfl) (bF (cj (pv 0) aw rfl)))))))),?_];have a1:=lg "wide" (.int (m.wide:Nat)) fs;have a2:=lg "unit" (.int (m.unit:Nat)) (aQ "wide" (.int (m.wide:Nat)) fs);generalize e3:aQ "edge" (.int (m.edge:Nat)) (aQ "unit" (.int (m.unit:Nat)) (aQ "wide" (.int (m.wide:Nat)) fs))=f3;have a3:=lg "edge" (.int (m.edge:Nat)) (aQ "unit" (.int (m.unit:Nat)) (aQ "wide" (.int (m.wide:Nat)) fs));rw[e3]at a3;refine#[_,rfl,_,rfl,p,ww.W,dx,fs,rfl,hp,S.cl,(S.a7 "wide"),by lia,?_];refine#[_,rfl,_,rfl,p,ww.W,dx,_,rfl,ab,S.cl,(S.a7 "unit"),by lia,?_];refine#[_,rfl,_,rfl,p,ww.W,dx,_,rfl,ab,S.cl,(S.a7 "edge"),by lia,?_];rw[L2.d7,L2.d7,e3];intro d dd U4 lO U5;refine#[d,dd,rfl,ab,λH3 G JX nG s3=>#[rfl,?_]];have wW:=ag.made U4 lO U5 s3;have hp3:=wW _ _ ab;have a4:=lg "designs" (.ref d) f3;refine#[_,rfl,p,ww.W,dx,_,rfl,hp3,S.cl,(S.a7 "designs"),by lia,?_];intro st ds uj B0 nes;refine#[st,ds,rfl,ab,λH6 ba ua hst U6 U7 U8 hba dA s6=>#[rfl,?_]];have oF:=ag.made uj B0 nes s6;have tX:=oF _ _ ab;have n4:=ag.gone (ag.uh (C:=ww.T) uj B0 nes) U6;have u4:=ag.gone (ag.uh (C:=ww.T) uj B0 nes) U7;have a5:=lg "stock" (.ref st) (aQ "designs" (.ref d) f3);have a6:=lg "sewing" .ay (aQ "stock" (.ref st) (aQ "designs" (.ref d) f3));refine#[_,rfl,p,ww.W,dx,_,rfl,tX,S.cl,(S.a7 "stock"),by lia,?_];refine#[_,rfl,p,ww.W,dx,_,rfl,ab,S.cl,(S.a7 "sewing"),by lia,?_];refine#[_,rfl,p,ww.W,dx,_,rfl,ab,S.cl,(S.a7 "done"),by lia,?_];rw[L2.d7,L2.d7,<-e3,U0 old];have U9:cq p H (upd H p (.ins ww.W dx f3)):=λb o e n=>by rw[ae n];exact e
 have U_:cq p H3 H6:=λb o e n=>oF _ _ (by rw[ae n];exact e);have JY:cq p H3 (upd H6 p (.ins ww.W dx (wf m d st .ay 0))):=λb o e n=>by rw[ae n];exact U_ _ _ e n
 have bp:ba≠p:=gM tX hba;have up:ua≠p:=gM tX dA;have n3:H3 ba=none:=by rw[ae bp]at n4;exact n4
 have u3:H3 ua=none:=by rw[ae up]at u4;exact u4
 have so:cq p H3 (off [ba] (upd H6 p (.ins ww.W dx (wf m d st .ay 0)))):=λb o e n=>by
  rw[dC λz=>by rw[Y0.mp z,n3]at e;cases e];exact JY _ _ e n
 have sH:cq p H (upd H6 p (.ins ww.W dx (wf m d st .ay 0))):=λb o e n=>JY _ _ (wW _ _ (U9 _ _ e n)) n;have sh:=(JX (Kyq.begun m) rfl rfl rfl).x hp3 ko.wd ko.wn ko.wp so;have JZ:upd H6 p (.ins ww.W dx (wf m d st .ay 0)) ba=some (.lst (iw Kyq.nine)):=by rw[ae bp];exact hba
 have stp:st≠p:=λz=>by rw[z,ab]at uj;cases uj
 have ub:ua∉([ba]:List Addr):=λz=>U8 (Y0.mp z).symm;have uG:ua∉G.map Prod.snd:=λz=>by
  obtain⟨xs,e⟩:=(JX (Kyq.begun m) rfl rfl rfl).ok.at_ ua z;rw[u3]at e;cases e
 refine kq _ #[G,[ba],d,st,ba,ua,.ay,by simp,λa h=>by rw[Y0.mp h];exact#[_,JZ],#[dx,ab],sh,BU hp sH tb,#[ds,by rw[ae stp];exact hst],JZ,by simp,j3 (by rw[dC ub,ae up];exact dA) uG,rfl,rfl,λi _=>X0 _,rfl,rfl] sH
inductive J3(vs:List V)(H:Hp)(Q:VK)(E:XK):Prop|mk(p dx:_)(_:vs=[.ref p])(_:H p=some (.ins ww.W dx []))(_:bJ H)(_:∀H',dR H' p (Kyq.begun ⟨0,0,0⟩)->cq p H H'->Q .ay H')
def Va(F:aX λf fd=>d_ K "__init__" "Workshop.__init__" (inClass (top 134) 0) f fd/\Mk K ww.W f/\Binds K fd ["self"] [])(hW:mg "Workshop"=some (.ref ww.W))(qM:aF P w K mg base 8 ww.W "clear_out" ["self","wide","unit","edge"] (BX)):fZ P w K mg base 9 "Workshop" ww.W ["self"] (J3):=by
 obtain⟨f,fd,F,mk,bd⟩:=F;refine#[hW,f,fd,mk,bd,F.go ["self"] λnd H vs Q E hr h=>?_];obtain⟨p,dx,rfl,hp,tb,kq⟩:=h;refine#[_,(bF (cK (bq qM (pv 0) (bC aw (aU aw aw))))),?_];exact#[_,rfl,p,dx,[],rfl,hp,rfl,p,dx,[],#[0,0,0],rfl,hp,.inl rfl,tb,λH' sh fr=>kq H' sh fr]
def oM{X:Cx}{e:Expr}{t:TE}{L:List Addr}(nd:L.Nodup)(h:PE X e t):PE X e (Fn L t):=vA h L nd
structure jE(mg:ZQ):Prop extends mT mg where
 xC:a8 mg "QUILT" 0
 J4:a8 mg "TOO_WIDE" (-75)
 Vb:a8 mg "IS_SEWING" (-16)
 Vc:a8 mg "LACKS_CLOTH" (-35)
 Vd:a8 mg "NOT_SEWING" (-16)
 Ve:a8 mg "SEAMS_LEFT" (-61)
 Vf:a8 mg "DONE_TOLD_BY_FINISH" 2147483648
 Vg:a8 mg "DONE_TOLD_BY_STATE" 4294967296
def iY:Option Nat->V
 |none=>.ay
 |some n=>.int (n:Nat)
def Vh{z:V}{o:Option Nat}(h:bW cG H z o):z=iY o:=by cases o<;>exact h
def mV(q:Shop)(b:Rows)(c:Nat):Option Nat:=Kyq.need q.m (Qm.aq b) (Kyq.partsFor (Qm.aq b)) c
def dH(q:Shop)(b:Rows):List (Option Nat):=(List.range 9).map λi=>mV q b (i+1)
def WB.um(h:WB G B H p d st ba ua wv q):∃dx,H p=some (.ins ww.W dx (wf q.m d st wv q.done))/\off B H p=some (.ins ww.W dx (wf q.m d st wv q.done)):=by
 obtain⟨dx,e⟩:=h.me;exact#[dx,e,by rw[dC (h.out e)];exact e]
inductive J5(vs:List V)(H:Hp)(Q:VK)(E:XK):Prop|mk(p:Addr)(q:Shop)(m:Measures)(_:vs=[.ref p,.int (m.wide:Nat),.int (m.unit:Nat),.int (m.edge:Nat)])(_:dR H p q)(_:∀H' r,dR H' p (if Kyq.okMeasures m=false then q else Kyq.begun m)->Fr H H'->H' r=some (.lst [.int (if Kyq.okMeasures m=false then -22 else 0)])->Q (.ref r) H')
def Vi(T:jE mg)(S:fj K ww.W)(D:bI K ww.W "start" "Workshop.start" (inClass (top 134) 2) ["self","wide","unit","edge"])(B1:aH P w K mg base 1 "measures_fit" ["wide","unit","edge"] JW)(qM:aF P w K mg base 8 ww.W "clear_out" ["self","wide","unit","edge"] (BX)):aF P w K mg base 9 ww.W "start" ["self","wide","unit","edge"] (J5):=by
 refine D.go ["self","wide","unit","edge"] S.cl λnd H vs Q E hr h=>?_;obtain⟨p,q,m,rfl,wa,kq⟩:=h;have jF:=wa;obtain⟨G,B,d,st,ba,ua,wv,wb⟩:=wa;obtain⟨dx,hp⟩:=wb.me;refine#[_,(aM (iG (e_ (bh B1 (bC (pv 1) (aU (pv 2) (pv 3)))) (λ_=>rfl))) (ax (aV (au (aE T.qp)))) (aC (cK (bq qM (pv 0) (bC (pv 1) (aU (pv 2) (pv 3))))) (ax (aV (au aw))))),?_];refine#[_,rfl,_,rfl,_,rfl,m,rfl,_,rfl,bg (λh=>?_) (λh=>?_)]
 .have e:Kyq.okMeasures m=false:=by
   cases z:Kyq.okMeasures m with|false=>rfl|true=>rw[z]at h;cases h
  rw[if_pos e,if_pos e]at kq;exact#[bu,λr hr0=>kq _ r (jF.mono (ai hr0)) (Fr.same (ai hr0)) ab]
 .have e:¬Kyq.okMeasures m=false:=λz=>by rw[z]at h;exact h rfl
  rw[if_neg e,if_neg e]at kq;refine#[_,rfl,p,dx,_,rfl,hp,rfl,_,rfl,_,rfl,_,rfl,p,dx,_,m,rfl,hp,.inr #[_,_,_,_,_,rfl],wb.tb,λH1 w1 s1=>?_];exact#[bu,λr hr0=>kq _ r (w1.mono (ai hr0)) ((Fr.x hp s1).trans (Fr.same (ai hr0))) ab]
inductive B3(vs:List V)(H:Hp)(Q:VK)(E:XK):Prop|mk(G:Gh)(B:List Addr)(p d st ba ua:Addr)(wv:V)(q:Shop)(c:Nat)(b:Rows)(_:vs=[.ref p,.int (c:Nat)])(_:WB G B H p d st ba ua wv q)(_:bM q.slots 0=some b)(_:∀H',WB G B H' p d st ba ua wv q->Fr H H'->Q (iY (mV q b c)) H')
def Vj(T:jE mg)(ok:cY.Ok)(ko:Kw.Ok)(S:fj K ww.W)(SD:dG K kk.D)(Cp:mP K kk.P)(D:bI K ww.W "amount_of" "Workshop.amount_of" (inClass (top 134) 3) ["self","c"])(lJ:aF P w K mg base 12 kk.N "plan_of" ["self","k"] (wO (bJ)))(B4:aH P w K mg base 4 "cloth_of_colour" ["pieces","colour","wide","unit","edge"] JF):aF P w K mg base 13 ww.W "amount_of" ["self","c"] (B3):=by
 refine D.go ["self","c","pieces"] S.cl λnd H vs Q E hr h=>?_;obtain⟨G,B,p,d,st,ba,ua,wv,q,c,b,rfl,wb,eb,kq⟩:=h;obtain⟨dx,hp,hpo⟩:=wb.um;obtain⟨iZ,fs,n,ka,dB,bX,ea,dF,dv,bU,hd,F,hnm,hin,l8,ac,O⟩:=wb.sh.cD;have fb:=jW O eb;have to:=uf wb.tb wb.ls;refine#[_,(aC (aR 2 (aK K (oM wb.nd (bq lJ (aK K (aK K (pv 0))) (au (aE T.xC)))))) (ax (bh B4 (bC (pv 2) (bC (pv 1) (bC (aK K (pv 0)) (aU (aK K (pv 0)) (aK K (pv 0))))))))),?_];refine#[wb.ls,_,rfl,p,ww.W,dx,_,_,rfl,hpo,S.cl,(S.a7 "designs"),rfl,d,kk.D,iZ,_,_,rfl,hd,SD.cl,(SD.a7 "names"),F.names,n,bX,_,rfl,hin,rfl,n,q.slots,0,G,b,rfl,wb.sh.ok,hnm,l8,ac,by decide,eb,fb,to,λH2 z s2 t2 g2 n2 ip hn=>?_];have fT:=br.drawn ok hnm s2 to.bK g2 n2 wb.sh;have f2:=j5 ok wb.sh.ok hnm to.bK s2;have kj:=wb.call ko fT t2 f2 hn rfl rfl rfl rfl rfl rfl;have fr:=wb.fr f2 hn;have so:=ue (H:=H) hn;obtain⟨a,jC,na,tY,tZ,rfl,ha,_,ip,_⟩:=ip;obtain⟨gD,hp2⟩:=kj.me;refine#[a,kk.P,jC,_,_,rfl,so _ _ (cZ _ _ ha),Cp.cl,Cp.nP,rfl,?_];refine#[_,rfl,_,rfl,_,rfl,p,ww.W,gD,_,_,rfl,hp2,S.cl,(S.a7 "wide"),rfl,_,rfl,p,ww.W,gD,_,_,rfl,hp2,S.cl,(S.a7 "unit"),rfl,_,rfl,p,ww.W,gD,_,_,rfl,hp2,S.cl,(S.a7 "edge"),rfl,?_];refine#[_,b,c,q.m,rfl,ip.mono (cZ.trans so),fb,λH' z s io=>?_];rw[Vh io];exact kq H' (kj.mono s) (fr.trans (Fr.same s))
inductive xE(vs:List V)(H:Hp)(Q:VK)(E:XK):Prop|mk(G:Gh)(B:List Addr)(p d st ba ua:Addr)(wv:V)(q:Shop)(b:Rows)(_:vs=[.ref p])(_:WB G B H p d st ba ua wv q)(_:bM q.slots 0=some b)(_:∀H0 r,WB G B H0 p d st ba ua wv q->Fr H H0->H0 r=none->Q (.ref r) (upd H0 r (.lst ((dH q b).map iY))))
theorem Vk(T:jE mg)(S:fj K ww.W)(D:bI K ww.W "amounts" "Workshop.amounts" (inClass (top 134) 4) ["self"])(qN:aF P w K mg base 13 ww.W "amount_of" ["self","c"] (B3)):aF P w K mg base 14 ww.W "amounts" ["self"] (xE):=by
 refine D.go ["self","c"] S.cl λnd H vs Q E hr h=>?_;obtain⟨G,B,p,d,st,ba,ua,wv,q,b,rfl,wa,eb,kq⟩:=h;refine#[_,(ax (jP (rB rfl T.eX (aU aw (aO bS (aE T.uc) aw))) (fF (own:=[("c",1)]) (by rfl)) (λ_ _ _ _ _=>(bQ 1)) (λ_ _ _ _ _=>(bq qN (pv 0) (au (pv 1)))))),?_];refine#[_,_,rfl,rfl,1,_,rfl,#[by decide,by decide,by decide,by decide],λD hD=>y9 (J:=gm 1 9) (n:=9) (λi H'=>H' D=some (.lst (((dH q b).take i).map iY))/\WB G B (del H' D) p d st ba ua wv q/\Fr H (del H' D)) ?_ (λi H' hi pv=>?_) (λH' pv=>?_)]
 .rw[cf hD];exact#[ab,wa,λ_ _ _ e=>e]
 .obtain⟨hA,qO,fm⟩:=pv;refine#[hi,λx h_ yl=>?_];obtain⟨rfl,rfl⟩:=yl;refine#[rfl,?_];unfold nz;dsimp only;rw[if_pos rfl];obtain⟨dx,hp⟩:=qO.me;refine#[D,_,hA,_,rfl,p,dx,_,rfl,hp,rfl,_,rfl,G,B,p,d,st,ba,ua,wv,q,i+1,b,?_,qO,eb,λH3 Vl jL hn=>#[_,ab,?_,?_]]
  .show[V.ref p,V.int (1+(i:Int))]=[V.ref p,V.int ((i+1:Nat):Int)];rw[show 1+(i:Int)=((i+1:Nat):Int) by lia]
  .rw[XX,YF];exact Yq (Nat.min_le_left _ _) (Yf hi (by decide))
  .have hy:(dH q b)[i]?=some (mV q b (i+1)):=by
    unfold dH;rw[X1,Yn hi];rfl
   rw[L2.d7,cf hn];refine#[?_,Vl,fm.trans jL];rw[ab,take_snoc hy,Zz];rfl
 .obtain⟨hA,qO,fm⟩:=pv;refine#[X0 9,?_];have l9:(dH q b).take 9=dH q b:=Yv (by simp[dH]);rw[l9]at hA;have r:=kq (del H' D) D qO fm (by unfold del;exact if_pos rfl);rw[Ou hA]at r;exact r
noncomputable def lP(q:Shop)(c:Nat):List Int:=if c<1\/9<c then[-22]else fR q 0 λb=>match mV q b c with
 |none=>[-75]
 |some n=>[((n:Nat):Int)]
inductive J6(vs:List V)(H:Hp)(Q:VK)(E:XK):Prop|mk(p:Addr)(q:Shop)(c:Nat)(_:vs=[.ref p,.int (c:Nat)])(_:dR H p q)(_:∀H' r,dR H' p q->Fr H H'->H' r=some (.lst ((lP q c).map V.int))->Q (.ref r) H')
theorem Vm(T:jE mg)(ko:Kw.Ok)(S:fj K ww.W)(D:bI K ww.W "need" "Workshop.need" (inClass (top 134) 5) ["self","c"])(lM:aH P w K mg base 1 "is_colour" ["c"] xt)(c6:aF P w K mg base 12 kk.D "refusal" ["self","k"] (lj))(qN:aF P w K mg base 13 ww.W "amount_of" ["self","c"] (B3)):aF P w K mg base 14 ww.W "need" ["self","c"] (J6):=by
 refine D.go ["self","c","refused","amount"] S.cl λnd H vs Q E hr h=>?_;obtain⟨p,q,c,rfl,⟨G,B,d,st,ba,ua,wv,wb⟩,kq⟩:=h;obtain⟨dx,hp,hpo⟩:=wb.um;obtain⟨iZ,fs,n,ka,dB,bX,ea,dF,dv,bU,hd,F,hnm,hin,l8,ac,O⟩:=wb.sh.cD;refine#[_,(aM (iG (e_ (bh lM (au (pv 1))) (λ_=>rfl))) (ax (aV (au (aE T.qp)))) (aC (aR 2 (oM wb.nd (bq c6 (aK K (pv 0)) (au (aE T.xC))))) (aM (aL gu (pv 2) aw) (ax (aV (au (pv 2)))) (aC (aR 3 (bq qN (pv 0) (au (pv 1)))) (aM (aL jN (pv 3) b_) (ax (aV (au (aE T.J4)))) (ax (aV (au (pv 3))))))))),?_];have ret:∀ {H':Hp} (z:Int),dR H' p q->Fr H H'->lP q c=[z]->∀r,H' r=none->Q (.ref r) (upd H' r (.lst [.int z])):=λ{H'} z a b e r hr=>kq _ r (a.mono (ai hr)) (b.trans (Fr.same (ai hr))) (by rw[ab,e];rfl);refine#[_,rfl,c,rfl,_,rfl,bg (λh=>?_) (λh=>?_)]
 .have h:¬(1<=c/\c<=9):=by simp at h;lia
  exact#[bu,λr hr0=>ret _ #[G,B,d,st,ba,ua,wv,wb] (λ_ _ _ e=>e) (by unfold lP;rw[if_pos (by lia)]) r hr0]
 have h:1<=c/\c<=9:=by simp at h;lia
 have ef:lP q c=fR q 0 λb=>match mV q b c with|none=>[-75]|some n=>[((n:Nat):Int)]:=by unfold lP;rw[if_neg (by lia)]
 refine#[wb.ls,_,rfl,p,ww.W,dx,_,_,rfl,hpo,S.cl,(S.a7 "designs"),rfl,d,iZ,fs,rfl,hd,F.dg,d,q,0,G,rfl,wb.sh,uf wb.tb wb.ls,λH1 sh1 t1 f1 hn=>?_];have dZ:=wb.call ko sh1 t1 f1 hn rfl rfl rfl rfl rfl rfl;have fm:=wb.fr f1 hn;have qO:dR (cV B H H1) p q:=#[G,B,d,st,ba,ua,wv,dZ]
 refine#[_,rfl,_,_,rfl,rfl,_,rfl,bV (λh2=>?_) (λh2=>?_)]
 .exact#[_,rfl,bu,λr hr0=>ret _ qO fm (by rw[ef,oo _ h2]) r hr0]
 .obtain⟨e,b,eb,eg⟩:=ly h2;obtain⟨dX,hp1⟩:=dZ.me;refine#[_,rfl,p,dX,_,rfl,hp1,rfl,_,rfl,G,B,p,d,st,ba,ua,wv,q,c,b,rfl,dZ,eb,λH2 kj oN=>?_];have J7:dR H2 p q:=#[G,B,d,st,ba,ua,wv,kj]
  have jL:=fm.trans oN;cases ea:mV q b c with|none=>exact#[_,rfl,rfl,_,rfl,jj #[bu,λr hr0=>ret _ J7 jL (by rw[ef,eg,ea]) r hr0]]|some n=>exact#[_,rfl,rfl,_,rfl,g8 #[_,rfl,bu,λr hr0=>ret _ J7 jL (by rw[ef,eg,ea]) r hr0]]
theorem B5:∀l:List (Option Nat),(l.any Option.isNone=true->l.foldr (λx t=>x.bind λn=>t.map λr=>n::r) (some [])=none)/\(l.any Option.isNone=false->∃w,l.foldr (λx t=>x.bind λn=>t.map λr=>n::r) (some [])=some w/\l=w.map some)
 |[]=>#[λh=>(by cases h),λ_=>#[[],rfl,rfl]]
 |none::l=>#[λ_=>rfl,λh=>by simp at h]
 |some n::l=>by
  obtain⟨a,b⟩:=B5 l;refine#[λh=>?_,λh=>?_]
  .have h:l.any Option.isNone=true:=by simpa using h
   rw[List.foldr_cons,a h];rfl
  .have h:l.any Option.isNone=false:=by simpa using h
   obtain⟨w,e1,e2⟩:=b h;exact#[n::w,by rw[List.foldr_cons,e1];rfl,by rw[e2];rfl]
def lO(q:Shop)(b:Rows):Option (List Nat):=Kyq.needs q.m (Qm.aq b) (Kyq.partsFor (Qm.aq b))
def B6(h:(dH q b).any Option.isNone=true):lO q b=none:=(B5 (dH q b)).1 h
def B7(h:(dH q b).any Option.isNone=false):∃w,lO q b=some w/\(dH q b).map iY=iw w/\w.length=9:=by
 obtain⟨w,e1,e2⟩:=(B5 (dH q b)).2 h;refine#[w,e1,?_,?_]
 .rw[e2,Y1];rfl
 .have:=congrArg List.length e2;rw[XX]at this;rw[<-this];simp[dH]
theorem B8:∀l:List (Option Nat),(l.map iY).all jf=true
 |[]=>rfl
 |none::l=>by simp[iY,jf,B8 l]
 |some n::l=>by simp[iY,jf,B8 l]
theorem B9:∀l:List (Option Nat),gZ .ay (l.map iY)=l.any Option.isNone
 |[]=>rfl
 |none::l=>by simp[gZ,iY,gv]
 |some n::l=>by
  have:=B9 l;unfold gZ at this ⊢;rw[X7,Y9,Y9,this];rfl
def fq(q:Shop):Int:=if refOf q 0<0 then refOf q 0 else match bM q.slots 0 with
 |none=>0
 |some b=>if(dH q b).any Option.isNone=true then -75 else 0
def uo(q:Shop)(f:Rows->List Nat->List Int):List Int:=fR q 0 λb=>match lO q b with
 |none=>[-75]
 |some w=>f b w
def Vn(h:fq q<0)(f:Rows->List Nat->List Int):uo q f=[fq q]:=by
 unfold fq at h ⊢;unfold uo;by_cases r:refOf q 0<0
 .rw[if_pos r,oo _ r]
 .rw[if_neg r]at h ⊢;obtain⟨e,b,eb,eg⟩:=ly r;rw[eg,eb];rw[eb]at h;by_cases a:(dH q b).any Option.isNone=true
  .simp only[if_pos a,B6 a]
  .simp only[if_neg a]at h;exact absurd h (by decide)
def J8(h:¬fq q<0):aX λb w=>(Kyq.at_ q.slots 0).isNone=false/\bM q.slots 0=some b/\lO q b=some w/\(dH q b).map iY=iw w/\w.length=9/\∀f,uo q f=f b w:=by
 unfold fq at h;by_cases r:refOf q 0<0
 .rw[if_pos r]at h;exact absurd r h
 .rw[if_neg r]at h;obtain⟨e,b,eb,eg⟩:=ly r;rw[eb]at h;by_cases a:(dH q b).any Option.isNone=true
  .simp only[if_pos a]at h;exact absurd (by decide) h
  .obtain⟨w,e1,e2,e3⟩:=B7 (Z2.mpr a);refine#[b,w,e,eb,e1,e2,e3,λf=>?_];unfold uo;rw[eg,e1]
theorem B_(l1:bo.length=9)(l2:us.length=9)(l3:am.length=9):Kyq.lacking (Kyq.lessAll bo us) am=dh bo us am:=by
 unfold Kyq.lacking Kyq.lessAll dh;refine YQ (by simp[l1,l2,l3]) λi h1 h2=>?_;have hi:i<9:=by simpa using h2
 simp[hand,XU,XT (show i<bo.length by lia),XT (show i<us.length by lia),XT (show i<am.length by lia)]
theorem Vo(l2:us.length=9)(l3:am.length=9):Kyq.moreAll us am=gf us am:=by
 unfold Kyq.moreAll gf;refine YQ (by simp[l2,l3]) λi h1 h2=>?_;have hi:i<9:=by simpa using h2
 simp[XU,XT (show i<us.length by lia),XT (show i<am.length by lia)]
theorem Vp(l1:bo.length=9)(l2:us.length=9)(l3:am.length=9):Kyq.lessAll (Kyq.lessAll bo us) am=Kyq.lessAll bo (gf us am):=by
 unfold Kyq.lessAll gf;refine YQ (by simp[l1,l2,l3]) λi h1 h2=>?_;have hi:i<9:=by simp at h2;lia
 simp[XU,XT (show i<us.length by lia),XT (show i<am.length by lia),Nat.sub_sub]
def Vq(hi:i<9):(gf us am).getD i 0=us.getD i 0+am.getD i 0:=by
 unfold gf;rw[XU,X1,Yn hi];rfl
def Vr(hi:i<9):am.getD i 0-hand bo us (i+1)∈dh bo us am:=Yp.mpr #[i,Yb.mpr hi,rfl]
theorem J9:∀l:List Nat,Kyq.count l+(l.map λn=>((n:Nat):Int)).count 0=l.length
 |[]=>rfl
 |n::l=>by
  have:=J9 l;unfold Kyq.count at this ⊢;rw[X7,List.count_cons,ZM,X2];by_cases z:n=0
  .subst z;simp at this ⊢
   lia
  .have e1:(n != 0)=true:=by simpa using z
   have e2:(((n:Nat):Int)==0)=false:=by simp;lia
   rw[e1,e2];simp at this ⊢
   lia
def J_:Kyq.count l=0↔∀x∈l,x=0:=by
 unfold Kyq.count;rw[YG,List.filter_eq_nil_iff];constructor
 .intro h x hx;have:=h x hx;simpa using this
 .intro h x hx;simp[h x hx]
theorem Ka:(l.map λn=>((n:Nat):Int)).sum>0↔Kyq.count l≠0:=by
 rw[JA,Ne,J_];constructor
 .intro h z;have e:l.sum=0:=by
   clear h
   induction l with|nil=>rfl|cons a l ih=>rw[Zj,z a (by simp),ih λx hx=>z x (by simp[hx])]
  lia
 .intro h;apply Int.ofNat_lt.mpr;apply Nat.pos_of_ne_zero;intro e;apply h;clear h
  induction l with|nil=>intro x hx;cases hx|cons a l ih=>
   rw[Zj]at e;intro x hx;rcases X5.mp hx with z|z
   .lia
   .exact ih (by lia) x z
inductive Ca(vs:List V)(H:Hp)(Q:VK)(E:XK):Prop|mk(G:Gh)(B:List Addr)(p d st ba ua:Addr)(wv:V)(q:Shop)(_:vs=[.ref p])(_:WB G B H p d st ba ua wv q)(_:∀H',WB G B H' p d st ba ua wv q->Fr H H'->Q (.int (fq q)) H')
def Vs(T:jE mg)(ko:Kw.Ok)(S:fj K ww.W)(D:bI K ww.W "cut_refusal" "Workshop.cut_refusal" (inClass (top 134) 6) ["self"])(c6:aF P w K mg base 12 kk.D "refusal" ["self","k"] (lj))(lQ:aF P w K mg base 14 ww.W "amounts" ["self"] (xE)):aF P w K mg base 15 ww.W "cut_refusal" ["self"] (Ca):=by
 refine D.go ["self","refused"] S.cl λnd H vs Q E hr h=>?_;obtain⟨G,B,p,d,st,ba,ua,wv,q,rfl,wb,kq⟩:=h;obtain⟨dx,hp,hpo⟩:=wb.um;obtain⟨iZ,fs,n,ka,dB,bX,ea,dF,dv,bU,hd,F,hnm,hin,l8,ac,O⟩:=wb.sh.cD;refine#[_,(aC (aR 1 (oM wb.nd (bq c6 (aK K (pv 0)) (au (aE T.xC))))) (aM (aL gu (pv 1) aw) (ax (pv 1)) (aM (rH (vp K) b_ (eT lQ (pv 0)) (by with_unfolding_all rfl)) (ax (aE T.J4)) (ax aw)))),?_];refine#[wb.ls,_,rfl,p,ww.W,dx,_,_,rfl,hpo,S.cl,(S.a7 "designs"),rfl,d,iZ,fs,rfl,hd,F.dg,d,q,0,G,rfl,wb.sh,uf wb.tb wb.ls,λH1 sh1 t1 f1 hn=>?_];have dZ:=wb.call ko sh1 t1 f1 hn rfl rfl rfl rfl rfl rfl;have fm:=wb.fr f1 hn;unfold fq at kq;refine#[_,rfl,_,_,rfl,rfl,_,rfl,bV (λh2=>?_) (λh2=>?_)]
 .rw[if_pos h2]at kq;exact#[_,rfl,kq _ dZ fm]
 .rw[if_neg h2]at kq;obtain⟨e,b,eb,eg⟩:=ly h2;rw[eb]at kq;obtain⟨dX,hp1⟩:=dZ.me;refine#[_,rfl,p,dX,_,rfl,hp1,rfl,G,B,p,d,st,ba,ua,wv,q,b,rfl,dZ,eb,λH2 r kj oN hr2=>?_];have s2:=ai (o:=HO.lst ((dH q b).map iY)) hr2;have k2:=kq _ (kj.mono s2) ((fm.trans oN).trans (Fr.same s2));refine#[r,_,rfl,.inl (af.of ab),rfl,B8 _,_,rfl,bg (λh3=>?_) (λh3=>?_)]
  .have h3:(dH q b).any Option.isNone=true:=by rw[<-B9];exact h3
   simp only[if_pos h3]at k2;exact k2
  .have h3:¬(dH q b).any Option.isNone=true:=by rw[<-B9];exact h3
   simp only[if_neg h3]at k2;exact k2
def oO(q:Shop):List Int:=uo q λ_ w=>((Kyq.count (Kyq.lacking q.stock w):Nat):Int)::(Kyq.lacking q.stock w).map λn=>((n:Nat):Int)
inductive km(ok:Shop->Prop)(f:Shop->Shop×List Int)(vs:List V)(H:Hp)(Q:VK)(E:XK):Prop|mk(p:Addr)(q:Shop)(_:vs=[.ref p])(_:dR H p q)(_:ok q)(_:∀H' r,dR H' p (f q).1->Fr H H'->H' r=some (.lst ((f q).2.map V.int))->Q (.ref r) H')
theorem Vt(T:jE mg)(S:fj K ww.W)(D:bI K ww.W "lacks" "Workshop.lacks" (inClass (top 134) 7) ["self"])(qP:aF P w K mg base 15 ww.W "cut_refusal" ["self"] (Ca))(lQ:aF P w K mg base 14 ww.W "amounts" ["self"] (xE))(qQ:aF P w K mg base 2 ww.T "lacking" ["self","amounts"] (BR ww.T)):aF P w K mg base 16 ww.W "lacks" ["self"] (km (λ_=>True) λq=>(q,oO q)):=by
 refine D.go ["self","refused","lacking"] S.cl λnd H vs Q E hr h=>?_;obtain⟨p,q,rfl,⟨G,B,d,st,ba,ua,wv,wb⟩,_,kq⟩:=h;obtain⟨dx,hp⟩:=wb.me;refine#[_,(aC (aR 1 (eT qP (pv 0))) (aM (aL gu (pv 1) aw) (ax (aV (au (pv 1)))) (aC (aR 2 (bq qQ (aK K (pv 0)) (au (eT lQ (pv 0))))) (ax (aO jO (aV (au (aO dM (aE T.uc) (c_ X4 ZW ZY (O6 K) (pv 2) (au aw))))) (pv 2)))))),?_];refine#[_,rfl,p,dx,_,rfl,hp,rfl,G,B,p,d,st,ba,ua,wv,q,rfl,wb,λH1 dZ fm=>?_];refine#[_,rfl,_,_,rfl,rfl,_,rfl,bV (λh2=>?_) (λh2=>?_)]
 .refine#[_,rfl,bu,λr hr0=>kq _ r #[G,B,d,st,ba,ua,wv,dZ.mono (ai hr0)] (fm.trans (Fr.same (ai hr0))) ?_];rw[ab];show _=some (HO.lst ((oO q).map V.int));unfold oO;rw[Vn h2];rfl
 .obtain⟨b,w,e,eb,en,ea,l9,eg⟩:=J8 h2;obtain⟨dX,hp1⟩:=dZ.me;obtain⟨Vu,hs1⟩:=dZ.fB;refine#[_,rfl,p,ww.W,dX,_,_,rfl,hp1,S.cl,(S.a7 "stock"),rfl,st,Vu,_,rfl,hs1,rfl,_,rfl,p,dX,_,rfl,hp1,rfl,G,B,p,d,st,ba,ua,wv,q,b,rfl,dZ,eb,λH2 r kj oN hr2=>?_];rw[ea];have s2:=ai (o:=HO.lst (iw w)) hr2;have mW:=kj.mono s2;refine#[st,ba,r,q.bought,q.used,w,rfl,mW.ug,ab,l9,λH4 r4 s4 h4=>?_];have eL:iw (dh q.bought q.used w)=((dh q.bought q.used w).map λn=>((n:Nat):Int)).map V.int:=(oq _).symm;have ek:Kyq.lacking q.stock w=dh q.bought q.used w:=by rw[wb.so,B_ wb.l1 wb.l2 l9]
  have lL:(dh q.bought q.used w).length=9:=by simp[dh]
  have cz:=J9 (dh q.bought q.used w);refine#[_,rfl,.inl #[rfl,_,af.of h4],r4,0,_,rfl,rfl,af.of (by rw[<-eL];exact h4),_,_,rfl,rfl,bu,λL hL=>?_];refine#[_,rfl,L,r4,_,_,rfl,rfl,ab,ai hL _ _ h4,(by rw[XX,lL];show 1+9<=sizeLine;decide),λr5 Kb=>?_];refine kq _ r5 #[G,B,d,st,ba,ua,wv,mW.mono ((s4.trans (ai hL)).trans (ai Kb))] (((fm.trans oN).trans (Fr.same s2)).trans (Fr.same ((s4.trans (ai hL)).trans (ai Kb)))) ?_;rw[ab];show _=some (HO.lst ((oO q).map V.int));unfold oO;rw[eg,ek,X7,oq];show some (HO.lst (V.int (9-((((dh q.bought q.used w).map λn=>((n:Nat):Int)).count 0:Nat):Int))::iw (dh q.bought q.used w)))=_;rw[show(9:Int)-((((dh q.bought q.used w).map λn=>((n:Nat):Int)).count 0:Nat):Int)=((Kyq.count (dh q.bought q.used w):Nat):Int) by lia]
def Vv(b:Kyq1.Block)(p:Kyq2.Plan):cF #[b,p,[]]=List.replicate (Kyq2.seams p) false:=by
 unfold cF;refine YQ (by simp) λi h1 h2=>?_;simp
noncomputable def kn(q:Shop):Shop×List Int:=if q.work.isSome=true then(q,[-16])else if fq q<0 then(q,[fq q])else match bM q.slots 0 with
 |none=>(q,[])
 |some b=>match lO q b with
  |none=>(q,[])
  |some w=>if Kyq.count (Kyq.lacking q.stock w)≠0 then(q,[-35])else({q with stock:=Kyq.lessAll q.stock w,used:=Kyq.moreAll q.used w,work:=some #[Qm.aq b,Kyq.planFor (Qm.aq b),[]]},[(((Kyq.partsFor (Qm.aq b)).length:Nat):Int)])
theorem Vw(T:jE mg)(ok:cY.Ok)(ko:Kw.Ok)(S:fj K ww.W)(SD:dG K kk.D)(D:bI K ww.W "begin" "Workshop.begin" (inClass (top 134) 8) ["self"])(qP:aF P w K mg base 15 ww.W "cut_refusal" ["self"] (Ca))(lQ:aF P w K mg base 14 ww.W "amounts" ["self"] (xE))(qQ:aF P w K mg base 2 ww.T "lacking" ["self","amounts"] (BR ww.T))(Cb:aF P w K mg base 1 ww.T "use_up" ["self","amounts"] (JQ ww.T))(lJ:aF P w K mg base 12 kk.N "plan_of" ["self","k"] (wO (bJ)))(Cc:fZ P w K mg base 1 "Sewing" ww.Z ["self","plan"] (JL ww.Z))(qR:aF P w K mg base 2 ww.Z "parts" ["self"] (t_ ww.Z xr)):aF P w K mg base 16 ww.W "begin" ["self"] (km (λ_=>True) kn):=by
 refine D.go ["self","refused","amounts"] S.cl λnd H vs Q E hr h=>?_;obtain⟨p,q,rfl,⟨G,B,d,st,ba,ua,wv,wb⟩,_,kq⟩:=h;obtain⟨dx,hp⟩:=wb.me;refine#[_,(aM (aL yi (aK K (pv 0)) b_) (ax (aV (au (aE T.Vb)))) (aC (aR 1 (eT qP (pv 0))) (aM (aL gu (pv 1) aw) (ax (aV (au (pv 1)))) (aC (aR 2 (eT lQ (pv 0))) (aM (aL gX (kG (y_ K) (by rfl) T.wA (show bootBuiltins "sum"=some (.builtin "sum") by decide+kernel) (au (bq qQ (aK K (pv 0)) (au (pv 2))))) aw) (ax (aV (au (aE T.Vc)))) (aC (cK (bq Cb (aK K (pv 0)) (au (pv 2)))) (aC (cj (pv 0) (y8 Cc (au (oM wb.nd (bq lJ (aK K (aK K (pv 0))) (au (aE T.xC)))))) rfl) (ax (eT qR (aK K (pv 0))))))))))),?_];have ret:∀ {H':Hp} (z:Int),WB G B H' p d st ba ua wv q->Fr H H'->kn q=(q,[z])->∀r,H' r=none->Q (.ref r) (upd H' r (.lst [.int z])):=λ{H'} z a b e r hr=>kq _ r (by rw[e];exact#[G,B,d,st,ba,ua,wv,a.mono (ai hr)]) (b.trans (Fr.same (ai hr))) (by rw[ab,e];rfl);refine#[_,rfl,p,ww.W,dx,_,_,rfl,hp,S.cl,(S.a7 "sewing"),rfl,rfl,_,rfl,bg (λh=>?_) (λh=>?_)]
 .have ew:q.work.isSome=true:=by
   cases z:q.work with|none=>rw[wb.none_ z]at h;simp at h|some wk=>rfl
  exact#[bu,λr hr0=>ret _ wb (λ_ _ _ e=>e) (by unfold kn;rw[if_pos ew]) r hr0]
 have ew:q.work=none:=by
  cases z:q.work with|none=>rfl|some wk=>
   obtain⟨x,sa,b,e,_⟩:=wb.qL z;rw[e]at h;simp at h
 have ku:¬q.work.isSome=true:=by rw[ew];decide
 have ev:=wb.none_ ew;subst ev;refine#[_,rfl,p,dx,_,rfl,hp,rfl,G,B,p,d,st,ba,ua,.ay,q,rfl,wb,λH1 dZ fm=>?_];refine#[_,rfl,_,_,rfl,rfl,_,rfl,bV (λh2=>?_) (λh2=>?_)]
 .exact#[_,rfl,bu,λr hr0=>ret _ dZ fm (by unfold kn;rw[if_neg ku,if_pos h2]) r hr0]
 obtain⟨b,w,e,eb,en,ea,l9,eg⟩:=J8 h2;have ef:kn q=if Kyq.count (Kyq.lacking q.stock w)≠0 then(q,[-35])else({q with stock:=Kyq.lessAll q.stock w,used:=Kyq.moreAll q.used w,work:=some #[Qm.aq b,Kyq.planFor (Qm.aq b),[]]},[(((Kyq.partsFor (Qm.aq b)).length:Nat):Int)]):=by
  unfold kn;rw[if_neg ku,if_neg h2,eb];simp only[en]
 obtain⟨dX,hp1⟩:=dZ.me;refine#[_,rfl,p,dX,_,rfl,hp1,rfl,G,B,p,d,st,ba,ua,.ay,q,b,rfl,dZ,eb,λH2 r kj oN hr2=>?_];rw[ea];have s2:=ai (o:=HO.lst (iw w)) hr2;have mW:=kj.mono s2;have jL:=(fm.trans oN).trans (Fr.same s2);have Cd:upd H2 r (.lst (iw w)) r=some (.lst (iw w)):=ab;generalize upd H2 r (.lst (iw w))=H3 at mW jL Cd;obtain⟨ou,hp3⟩:=mW.me;obtain⟨Vx,hs3⟩:=mW.fB;refine#[_,rfl,p,ww.W,ou,_,_,rfl,hp3,S.cl,(S.a7 "stock"),rfl,st,Vx,_,rfl,hs3,rfl,_,rfl,st,ba,r,q.bought,q.used,w,rfl,mW.ug,Cd,l9,λH4 r4 s4 h4=>?_];have eL:iw (dh q.bought q.used w)=((dh q.bought q.used w).map λn=>((n:Nat):Int)).map V.int:=(oq _).symm;have ek:Kyq.lacking q.stock w=dh q.bought q.used w:=by rw[wb.so,B_ wb.l1 wb.l2 l9]
 have uq:=mW.mono s4;have Kc:=jL.trans (Fr.same s4);refine#[r4,_,rfl,af.of (by rw[<-eL];exact h4),_,_,rfl,rfl,_,rfl,bg (λh5=>?_) (λh5=>?_)]
 .have h5:=Ka.mp (Yi h5);exact#[bu,λr hr0=>ret _ uq Kc (by rw[ef,ek,if_pos h5]) r hr0]
 have h5:¬Kyq.count (dh q.bought q.used w)≠0:=λz=>h5 (Yc (Ka.mpr z));have Vy:=J_.mp (Classical.not_not.mp h5);rw[ef,ek,if_neg h5]at kq;obtain⟨Vz,xi⟩:=uq.me;obtain⟨VA,u9⟩:=uq.fB;refine#[_,rfl,p,ww.W,Vz,_,_,rfl,xi,S.cl,(S.a7 "stock"),rfl,st,VA,_,rfl,u9,rfl,_,rfl,st,ba,r,q.bought,q.used,w,rfl,uq.ug,s4 _ _ Cd,l9,λH5 XO IB VB VC VD s5=>?_];have jG:=uq.use ko s5 VB VC VD (by simp[gf]) λi hi=>by
  have l0:=Vy _ (Vr (bo:=q.bought) (us:=q.used) (am:=w) hi);have le:=wb.le i hi;unfold hand at l0;rw[Nat.add_sub_cancel]at l0;rw[Vq hi]
  lia
 have yc:=Kc.trans (Fr.x u9 s5);have eq5:({q with used:=gf q.used w,stock:=Kyq.lessAll q.bought (gf q.used w)}:Shop)={q with stock:=Kyq.lessAll q.stock w,used:=Kyq.moreAll q.used w}:=by rw[wb.so,Vp wb.l1 wb.l2 l9,Vo wb.l2 l9]
 rw[eq5]at jG;obtain⟨A5,wH,hpo⟩:=jG.um;obtain⟨iZ,fs,n,ka,dB,bX,ea,dF,dv,bU,hd,F,hnm,hin,l8,ac,O⟩:=jG.sh.cD;have fb:=jW O eb;have to:=uf jG.tb jG.ls;refine#[jG.ls,_,rfl,p,ww.W,A5,_,_,rfl,hpo,S.cl,(S.a7 "designs"),rfl,d,kk.D,iZ,_,_,rfl,hd,SD.cl,(SD.a7 "names"),F.names,n,bX,_,rfl,hin,rfl,n,q.slots,0,G,b,rfl,jG.sh.ok,hnm,l8,ac,by decide,eb,fb,to,λH6 z s6 t6 g6 n6 ip hn=>?_];have w8:=br.drawn ok hnm s6 to.bK g6 n6 jG.sh;have f6:=j5 ok jG.sh.ok hnm to.bK s6;have lR:=jG.call ko w8 t6 f6 hn rfl rfl rfl rfl rfl rfl;have Kd:=yc.trans (jG.fr f6 hn);have so:=ue (H:=H5) hn;have eo:=JT (H:=H5) hn;generalize cV B H5 H6=H7 at lR Kd so eo;obtain⟨a,jC,na,tY,tZ,rfl,ha,_,VE,Ke⟩:=ip;have VF:=so _ _ (cZ _ _ ha);have VG:=Ke;obtain⟨_,ee,eK⟩:=VG;cases ee;have VH:=so _ _ (cZ _ _ eK);intro x iT nx ndx jz;have sm:=ag.uh (C:=ww.Z) nx ndx jz;have BI:=sF fb.good;refine#[x,iT,a,jC,na,tY,tZ,Kyq2.seams (Kyq.planFor (Qm.aq b)),_,rfl,ab,sm _ _ VF,sm _ _ VH,by rw[XX,jX],by lia,λH8 sa VI VJ VL s8=>#[rfl,?_]];have Kf:=ag.made nx ndx jz s8;have xF:=ag.gone sm VJ;obtain⟨mX,oQ⟩:=lR.me;have hp8:=Kf _ _ oQ;refine#[_,rfl,p,ww.W,mX,_,rfl,hp8,S.cl,(S.a7 "sewing"),(by show 7<1000;decide),?_];rw[BW];have sp:cq p H7 (upd H8 p (.ins ww.W mX (wf q.m d st (.ref x) q.done))):=λc o e n=>by rw[ae n];exact Kf _ _ e
 have xp:x≠p:=λz=>by rw[z,oQ]at nx;cases nx
 have VM:sa≠p:=λz=>by rw[z,oQ]at xF;cases xF
 have Kg:sa∉B:=λz=>by obtain⟨xs,e⟩:=lR.ls _ z;rw[xF]at e;cases e
 have VN:sa≠ba:=λz=>Kg (z▸lR.bi);have Kh:upd H8 p (.ins ww.W mX (wf q.m d st (.ref x) q.done)) sa=some (.lst ((cF #[Qm.aq b,Kyq.planFor (Qm.aq b),[]]).map V.bl)):=by rw[ae VM,Vv];exact VL
 have hB:∀c∈sa::B,c∈B\/H7 c=none:=λc m=>by
  rcases X5.mp m with z|z
  .exact .inr (z▸xF)
  .exact .inl z
 have VO:off B H7 p=some (.ins ww.W mX (wf q.m d st .ay q.done)):=by rw[dC (lR.out oQ)];exact oQ
 have sd:ag (fz G H6) (fz G (off (sa::B) (upd H8 p (.ins ww.W mX (wf q.m d st (.ref x) q.done))))):=by
  rw[<-eo];exact xx VO ko.wp (BV sp hB)
 have Ki:upd H8 p (.ins ww.W mX (wf q.m d st (.ref x) q.done)) x=some (.ins ww.Z iT (zf tY tZ sa)):=by rw[ae xp];exact VI
 have Kj:=lR.own ko sp #[mX,ab] (B':=sa::B) (Y5.mpr #[Kg,lR.nd]) (λc m=>by
   rcases X5.mp m with z|z
   .exact⟨_,by rw[z];exact Kh⟩
   .obtain⟨xs,e⟩:=lR.ls c z;exact#[xs,sp _ _ e (gM oQ e)]) hB (X6 _ lR.bi) (wo:=some #[Qm.aq b,Kyq.planFor (Qm.aq b),[]]) #[x,sa,b,iT,tY,tZ,rfl,Ki,VE.mono sd,Ke.mono sd,Ym ..,VN,Kh,f_.nil _ _,rfl,fb,by show Kyq2.seams (Kyq.planFor (Qm.aq b))<=35;lia,BL fb]
 have VP:=Kd.trans (Fr.x oQ sp);obtain⟨x',VQ,b',ex,sat,_⟩:=Kj.qL rfl;cases ex;refine#[_,rfl,p,ww.W,mX,_,_,rfl,ab,S.cl,(S.a7 "sewing"),rfl,x,iT,_,rfl,Ki,rfl,x,VQ,b',_,rfl,sat,λNz r10 yQ h10=>?_];exact kq _ r10 #[G,sa::B,d,st,ba,IB,.ref x,Kj.mono yQ] (VP.trans (Fr.same yQ)) h10
def WB.Ce(h:WB G B H p d st ba ua wv q)(e:q.work.isSome=true):Dj λwk x sa b dz pa ea=>q.work=some wk/\wv=.ref x/\H x=some (.ins ww.Z dz (zf pa ea sa))/\gK ww.Z H x sa b wk/\sa∈B/\sa≠ba:=by
 cases z:q.work with|none=>rw[z]at e;cases e|some wk=>
  obtain⟨x,sa,b,ex,sat,m,n⟩:=h.qL z;have VR:=sat;obtain⟨⟨dz,pa,ea,hx,_⟩,_⟩:=sat;exact#[wk,x,sa,b,dz,pa,ea,rfl,ex,hx,VR,m,n]
noncomputable def mY(q:Shop):Shop×List Int:=match q.work with
 |none=>(q,[-16])
 |some w=>if Kyq.left w≠0 then(q,[-61])else({q with work:=none,done:=q.done+1},[(((q.done+1)%2147483648:Nat):Int)])
theorem VS(T:jE mg)(ko:Kw.Ok)(S:fj K ww.W)(D:bI K ww.W "finish" "Workshop.finish" (inClass (top 134) 9) ["self"])(lK:aF P w K mg base 1 ww.Z "seams_left" ["self"] (xo ww.Z)):aF P w K mg base 2 ww.W "finish" ["self"] (km (λq=>q.work.isSome=true) mY):=by
 refine D.go ["self"] S.cl λnd H vs Q E hr h=>?_;obtain⟨p,q,rfl,⟨G,B,d,st,ba,ua,wv,wb⟩,iw,kq⟩:=h;obtain⟨dx,hp⟩:=wb.me;obtain⟨wk,x,sa,b,dz,pa,ea,ew,rfl,hx,sat,m,n⟩:=wb.Ce iw;refine#[_,(aM (aL gX (eT lK (aK K (pv 0))) aw) (ax (aV (au (aE T.Ve)))) (aC (cj (pv 0) b_ rfl) (aC (cj (pv 0) (aO bS (aK K (pv 0)) aw) rfl) (ax (aV (au (aO DO (aK K (pv 0)) (aE T.Vf)))))))),?_];refine#[_,rfl,p,ww.W,dx,_,_,rfl,hp,S.cl,(S.a7 "sewing"),rfl,x,dz,_,rfl,hx,rfl,x,sa,b,wk,rfl,sat,_,_,rfl,rfl,_,rfl,bV (λh=>?_) (λh=>?_)]
 .have ef:mY q=(q,[-61]):=by unfold mY;rw[ew];exact if_pos (by lia)
  rw[ef]at kq;exact#[bu,λr hr0=>kq _ r #[G,B,d,st,ba,ua,.ref x,wb.mono (ai hr0)] (Fr.same (ai hr0)) ab]
 .have ef:mY q=({q with work:=none,done:=q.done+1},[(((q.done+1)%2147483648:Nat):Int)]):=by unfold mY;rw[ew];exact if_neg (by lia)
  rw[ef]at kq;refine#[_,rfl,p,ww.W,dx,_,rfl,hp,S.cl,(S.a7 "sewing"),(by show 7<1000;decide),?_];rw[BW];refine#[_,rfl,p,ww.W,dx,_,_,rfl,ab,S.cl,(S.a7 "done"),rfl,_,_,rfl,rfl,_,rfl,p,ww.W,dx,_,rfl,ab,S.cl,(S.a7 "done"),(by show 7<1000;decide),?_];have ed:V.int (((q.done:Nat):Int)+1)=V.int ((q.done+1:Nat):Int):=rfl;rw[ed,U1,L2.d7];have sp:cq p H (upd H p (.ins ww.W dx (wf q.m d st .ay (q.done+1)))):=λc o e n=>by rw[ae n];exact e
  have dZ:=wb.quit ko sp #[dx,ab];refine#[_,rfl,p,ww.W,dx,_,_,rfl,ab,S.cl,(S.a7 "done"),rfl,_,_,rfl,rfl,(by show(0:Int)<2147483648;decide),bu,λr hr0=>kq _ r #[G,B,d,st,ba,ua,.ay,dZ.mono (ai hr0)] ((Fr.x hp sp).trans (Fr.same (ai hr0))) ?_];rw[ab];show some (HO.lst [V.int (((q.done+1:Nat):Int)%2147483648)])=some (HO.lst [V.int (((q.done+1)%2147483648:Nat):Int)]);rw[show((q.done+1:Nat):Int)%2147483648=(((q.done+1)%2147483648:Nat):Int) by lia]
def qS(q:Shop):Shop×List Int:=match q.work with
 |none=>(q,[-16])
 |some w=>({q with work:=none},[((Kyq.left w:Nat):Int)])
def VT(ko:Kw.Ok)(S:fj K ww.W)(D:bI K ww.W "stop" "Workshop.stop" (inClass (top 134) 10) ["self"])(lK:aF P w K mg base 1 ww.Z "seams_left" ["self"] (xo ww.Z)):aF P w K mg base 2 ww.W "stop" ["self"] (km (λq=>q.work.isSome=true) qS):=by
 refine D.go ["self","left"] S.cl λnd H vs Q E hr h=>?_;obtain⟨p,q,rfl,⟨G,B,d,st,ba,ua,wv,wb⟩,iw,kq⟩:=h;obtain⟨dx,hp⟩:=wb.me;obtain⟨wk,x,sa,b,dz,pa,ea,ew,rfl,hx,sat,m,n⟩:=wb.Ce iw;refine#[_,(aC (aR 1 (eT lK (aK K (pv 0)))) (aC (cj (pv 0) b_ rfl) (ax (aV (au (pv 1)))))),?_];have ef:qS q=({q with work:=none},[((Kyq.left wk:Nat):Int)]):=by unfold qS;rw[ew]
 rw[ef]at kq;refine#[_,rfl,p,ww.W,dx,_,_,rfl,hp,S.cl,(S.a7 "sewing"),rfl,x,dz,_,rfl,hx,rfl,x,sa,b,wk,rfl,sat,?_];refine#[_,rfl,p,ww.W,dx,_,rfl,hp,S.cl,(S.a7 "sewing"),(by show 7<1000;decide),?_];rw[BW];have sp:cq p H (upd H p (.ins ww.W dx (wf q.m d st .ay q.done))):=λc o e n=>by rw[ae n];exact e
 have dZ:=wb.quit ko sp #[dx,ab];exact#[_,rfl,bu,λr hr0=>kq _ r #[G,B,d,st,ba,ua,.ay,dZ.mono (ai hr0)] ((Fr.x hp sp).trans (Fr.same (ai hr0))) ab]
def ur(q:Shop):List Int:=[if q.work.isSome=true then 1 else 0,((q.done%4294967296:Nat):Int),((q.past.length:Nat):Int),((q.ahead.length:Nat):Int)]
theorem VU(T:jE mg)(S:fj K ww.W)(SD:dG K kk.D)(D:bI K ww.W "state" "Workshop.state" (inClass (top 134) 11) ["self"]):aF P w K mg base 1 ww.W "state" ["self"] (km (λ_=>True) λq=>(q,ur q)):=by
 refine D.go ["self","being_sewn","done"] S.cl λnd H vs Q E hr h=>?_;obtain⟨p,q,rfl,⟨G,B,d,st,ba,ua,wv,wb⟩,_,kq⟩:=h;obtain⟨dx,hp⟩:=wb.me;obtain⟨_,⟨iZ,fs,n,ka,dB,ks,us,hd,F,_,_,_,hk,pk,hu,pu,_⟩,_⟩:=wb.sh;have hd:=vz _ _ hd;have hk:=vz _ _ hk;have hu:=vz _ _ hu;have lk:=pk.length;have lu:=pu.length;rw[Yz]at lk lu;refine#[_,(aC (aR 1 (Lr (aL jN (aK K (pv 0)) b_) aw aw)) (aC (aR 2 (aO DO (aK K (pv 0)) (aE T.Vg))) (ax (aV (bC (pv 1) (bC (pv 2) (aU (bO K T.bP (aK K (aK K (pv 0)))) (bO K T.bP (aK K (aK K (pv 0))))))))))),?_];have go:∀z:Int,z=(if q.work.isSome=true then 1 else 0)->∀r,H r=none->Q (.ref r) (upd H r (.lst [.int z,.int (((q.done:Nat):Int)%4294967296),.int ((ks.length:Nat):Int),.int ((us.length:Nat):Int)])):=λz ez r hr0=>kq _ r #[G,B,d,st,ba,ua,wv,wb.mono (ai hr0)] (Fr.same (ai hr0)) (by
  rw[ab];show _=some (HO.lst ((ur q).map V.int));unfold ur;rw[<-ez,lk,lu,show((q.done:Nat):Int)%4294967296=((q.done%4294967296:Nat):Int) by lia];rfl)
 refine#[_,rfl,p,ww.W,dx,_,_,rfl,hp,S.cl,(S.a7 "sewing"),rfl,rfl,_,rfl,bg (λh=>?_) (λh=>?_)]
 .have ew:q.work=none:=by
   cases z:q.work with|none=>rfl|some wk=>
    obtain⟨x,sa,b,e,_⟩:=wb.qL z;rw[e]at h;simp at h
  refine#[_,rfl,p,ww.W,dx,_,_,rfl,hp,S.cl,(S.a7 "done"),rfl,_,_,rfl,rfl,(by show(0:Int)<4294967296;decide),?_];exact#[_,rfl,_,rfl,_,rfl,p,ww.W,dx,_,_,rfl,hp,S.cl,(S.a7 "designs"),rfl,d,kk.D,iZ,_,_,rfl,hd,SD.cl,(SD.a7 "kept"),F.kept,ka,ks,rfl,.inl (af.of hk),_,rfl,p,ww.W,dx,_,_,rfl,hp,S.cl,(S.a7 "designs"),rfl,d,kk.D,iZ,_,_,rfl,hd,SD.cl,(SD.a7 "undone"),F.undone,dB,us,rfl,.inl (af.of hu),(by show 4<=sizeLine;decide),λr hr0=>go 0 (by rw[ew];rfl) r hr0]
 .have ew:q.work.isSome=true:=by
   cases z:q.work with|none=>rw[wb.none_ z]at h;simp at h|some wk=>rfl
  refine#[_,rfl,p,ww.W,dx,_,_,rfl,hp,S.cl,(S.a7 "done"),rfl,_,_,rfl,rfl,(by show(0:Int)<4294967296;decide),?_];exact#[_,rfl,_,rfl,_,rfl,p,ww.W,dx,_,_,rfl,hp,S.cl,(S.a7 "designs"),rfl,d,kk.D,iZ,_,_,rfl,hd,SD.cl,(SD.a7 "kept"),F.kept,ka,ks,rfl,.inl (af.of hk),_,rfl,p,ww.W,dx,_,_,rfl,hp,S.cl,(S.a7 "designs"),rfl,d,kk.D,iZ,_,_,rfl,hd,SD.cl,(SD.a7 "undone"),F.undone,dB,us,rfl,.inl (af.of hu),(by show 4<=sizeLine;decide),λr hr0=>go 1 (by rw[if_pos ew]) r hr0]
open Kyq (Slots Shop Measures Work Call)
noncomputable def enc:Call->List Int
 |.start m=>[0,((m.wide:Nat):Int),((m.unit:Nat):Int),((m.edge:Nat):Int)]
 |.put k t=>1::((k:Nat):Int)::((t.length:Nat):Int)::t.map λn=>((n:Nat):Int)
 |.drop k=>[2,((k:Nat):Int)]
 |.undo=>[3]
 |.redo=>[4]
 |.text k=>[5,((k:Nat):Int)]
 |.uses k=>[6,((k:Nat):Int)]
 |.users k=>[7,((k:Nat):Int)]
 |.size k=>[8,((k:Nat):Int)]
 |.draw k=>[9,((k:Nat):Int)]
 |.halves k=>[10,((k:Nat):Int)]
 |.same j k=>[11,((j:Nat):Int),((k:Nat):Int)]
 |.fixing k=>[12,((k:Nat):Int)]
 |.plan k=>[13,((k:Nat):Int)]
 |.need c=>[14,((c:Nat):Int)]
 |.buy c n=>[15,((c:Nat):Int),((n:Nat):Int)]
 |.cloth c=>[16,((c:Nat):Int)]
 |.lacks=>[17]
 |.begin_=>[18]
 |.seam i=>[19,((i:Nat):Int)]
 |.next=>[20]
 |.piece i=>[21,((i:Nat):Int)]
 |.parts=>[22]
 |.finish=>[23]
 |.halt_=>[24]
 |.state=>[25]
noncomputable def act(q:Shop)(c:Call):Shop×List Int:=match Kyq.acts (some q) c with
 |some (some q',a)=>(q',told a)
 |_=>(q,[])
def gg{t:Shop}{a:Kyq.Ans}{l:List Int}(e:Kyq.acts (some q) c=some (some t,a))(r:told a=l):act q c=(t,l):=by
 unfold act;rw[e,<-r]
def c7{t:Shop}{a:Kyq.Ans}(e:Kyq.acts (some q) c=some (some t,a)):act q c=(t,told a):=gg e rfl
section
variable(O:cb q.slots)
theorem Cf:act q .undo=kb q:=by
 obtain⟨m,sl,past,ah,st,bo,us,wk,dn⟩:=q;cases past with|nil=>rfl|cons l p=>rfl
theorem Cg:act q .redo=ke q:=by
 obtain⟨m,sl,past,ah,st,bo,us,wk,dn⟩:=q;cases ah with|nil=>rfl|cons l p=>rfl
theorem xG(k:Nat)(t:List Nat):Kyq.acts (some q) (.put k t)=some (if 7<k\/Kyq1.longest<t.length then(some q,Kyq.say (-22))else match Kyq1.expOf t with
  |none=>(some q,Kyq.say (-71))
  |some e=>if(Kyq.uses (q.slots.set k (some e)) k).contains k then(some q,Kyq.say (-41))else(some (Kyq.changed q (q.slots.set k (some e))),Kyq.say 0)):=rfl
theorem Ci(k:Nat)(t:List Nat):act q (.put k t)=iX q k t:=by
 unfold iX;by_cases e:7<k\/Kyq1.longest<t.length
 .rw[if_pos e];exact c7 (a:=Kyq.say (-22)) (by rw[xG,if_pos e])
 .rw[if_neg e];cases x:Kyq1.expOf t with|none=>exact c7 (a:=Kyq.say (-71)) (by rw[xG,if_neg e,x])|some ex=>
   by_cases u:(Kyq.uses (q.slots.set k (some ex)) k).contains k=true
   .simp only[if_pos u];exact c7 (a:=Kyq.say (-41)) (by rw[xG,if_neg e,x];simp only[if_pos u])
   .simp only[if_neg u];exact c7 (a:=Kyq.say 0) (by rw[xG,if_neg e,x];simp only[if_neg u])
theorem Cj(k:Nat):Kyq.acts (some q) (.drop k)=some (if(Kyq.at_ q.slots k).isNone then(some q,Kyq.say (-2))else if(Kyq.users q.slots k).isEmpty=false then(some q,Kyq.say (-35))else(some (Kyq.changed q (q.slots.set k none)),Kyq.say 0)):=rfl
include O
theorem Ck(k:Nat):act q (.drop k)=jB q k:=by
 unfold jB;by_cases e:(Kyq.at_ q.slots k).isNone=true
 .rw[if_pos e];exact c7 (a:=Kyq.say (-2)) (by rw[Cj,if_pos e])
 .rw[if_neg e];by_cases u:((cO q.slots k 8:Nat):Int)≠0
  .rw[if_pos u];exact c7 (a:=Kyq.say (-35)) (by rw[Cj,if_neg e,if_pos ((IQ O k).mpr u)])
  .rw[if_neg u];exact c7 (a:=Kyq.say 0) (by rw[Cj,if_neg e,if_neg (λz=>u ((IQ O k).mp z))])
theorem Cm(k:Nat):act q (.size k)=(q,qr q k):=gg rfl (Ta O k)
theorem Cn(k:Nat):act q (.draw k)=(q,qv q k):=gg rfl (Tb O k)
theorem Co(k:Nat):act q (.halves k)=(q,qt q k):=gg rfl (Tf O k)
theorem Cq(j k:Nat):act q (.same j k)=(q,iV q j k):=gg rfl (Tj O j k)
theorem Cr(k:Nat):act q (.fixing k)=(q,qu q k):=gg rfl (Te O k)
theorem Cs(k:Nat):act q (.plan k)=(q,qJ q k):=gg rfl (Ua O k)
theorem Ct(k:Nat):act q (.uses k)=(q,lC q k):=gg rfl (Th O k)
theorem Cu(k:Nat):act q (.users k)=(q,lD q k):=gg rfl (Ti O k)
omit O in
theorem Cv(k:Nat):act q (.text k)=(q,lB q k):=gg rfl (Tg q k)
end
def d4{A B:Prop}{i:Int}(h:A):if decide (V.int i=V.int i)=true then A else B:=by rw[Yc rfl,if_pos rfl];exact h
def bG{A B:Prop}{i:Int}(h:B)(n:i≠j:=by decide):if decide (V.int i=V.int j)=true then A else B:=by
 rw[Yh λz=>n (by injection z),if_neg (by decide)];exact h
def uu{A B:Prop}{i:Int}(n:i<=j)(h:A):if decide (i<=j)=true then A else B:=by rw[Yc n,if_pos rfl];exact h
def gh{A B:Prop}{i:Int}(n:¬i<=j)(h:B):if decide (i<=j)=true then A else B:=by
 rw[Yh n,if_neg (by decide)];exact h
def rd{σ:L2.St}{b:Addr}{Q:VK}(hb:H b=some (.lst xs))(h0:xs[i]?=some v)(k:Q v H)(hs:σ[1]?=some (some (.ref b)):=by rfl):iK (o_ K) (lX 1) (tC (.int (i:Nat))) σ H Q:=#[_,hs,b,xs,i,v,rfl,rfl,af.of hb,at_of rfl h0,k]
structure oR(mg:ZQ):Prop where
 VW:a8 mg "START" 0
 VX:a8 mg "PUT" 1
 VY:a8 mg "DROP" 2
 VZ:a8 mg "UNDO" 3
 V0:a8 mg "REDO" 4
 V1:a8 mg "TEXT" 5
 V2:a8 mg "USES" 6
 V3:a8 mg "USERS" 7
 V4:a8 mg "SIZE" 8
 V5:a8 mg "DRAW" 9
 V6:a8 mg "HALVES" 10
 V7:a8 mg "SAME" 11
 V8:a8 mg "FIXING" 12
 V9:a8 mg "PLAN" 13
 V_:a8 mg "NEED" 14
 Wa:a8 mg "BUY" 15
 Wb:a8 mg "CLOTH" 16
 Wc:a8 mg "LACKS" 17
 Wd:a8 mg "BEGIN" 18
 We:a8 mg "SEAM" 19
 Wf:a8 mg "NEXT" 20
 Wg:a8 mg "PIECE" 21
 Wh:a8 mg "PARTS" 22
 Wi:a8 mg "FINISH" 23
 Wj:a8 mg "STOP" 24
noncomputable def qT:Call->Prop
 |.put _ _=>True
 |.drop _=>True
 |.undo=>True
 |.redo=>True
 |_=>False
noncomputable def qU:Call->Prop
 |.text _=>True
 |.uses _=>True
 |.users _=>True
 |_=>False
noncomputable def qV:Call->Prop
 |.size _=>True
 |.draw _=>True
 |.halves _=>True
 |.same _ _=>True
 |.fixing _=>True
 |.plan _=>True
 |_=>False
inductive qW(ok:Call->Prop)(vs:List V)(H:Hp)(Q:VK)(E:XK):Prop|mk(p b:Addr)(q:Shop)(c:Call)(G:Gh)(_:vs=[.ref p,.ref b])(_:br G H p q)(_:bJ H)(_:H b=some (.lst ((enc c).map V.int)))(_:ok c)(_:∀H' r G',br G' H' p (act q c).1->bJ H'->Fz G G' H H'->H' r=some (.lst ((act q c).2.map V.int))->Q (.ref r) H')
def Wk(T:oR mg)(D:bx K mg "answer_change" (top 135) ["designs","call"])(Cw:aF P w K mg base 13 kk.D "put" ["self","k","words"] (ID))(Cy:aF P w K mg base 13 kk.D "drop" ["self","k"] (II jB))(Cz:aF P w K mg base 13 kk.D "undo" ["self"] (w9 kb))(CA:aF P w K mg base 13 kk.D "redo" ["self"] (w9 ke)):aH P w K mg base 14 "answer_change" ["designs","call"] (qW qT):=by
 refine D.go ["designs","call","number"] λnd H vs Q E hr h=>?_;obtain⟨p,b,q,c,G,rfl,sh,tb,hb,kx,kq⟩:=h;obtain⟨dx,fs,n,ka,ua,bX,ea,dF,dv,bU,hp,F,_,_,l8,ac,O⟩:=sh.cD;refine#[_,(aC (aR 2 (a0 K (pv 1) aw)) (aM (aL bL (pv 2) (aE T.VX)) (ax (bq Cw (pv 0) (aU (a0 K (pv 1) aw) (l7 (pI K) (pv 1) (gY aw) yt)))) (aM (aL bL (pv 2) (aE T.VY)) (ax (bq Cy (pv 0) (au (a0 K (pv 1) aw)))) (aM (aL bL (pv 2) (aE T.VZ)) (ax (eT Cz (pv 0))) (ax (eT CA (pv 0))))))),?_];cases c with
 |put k t=>
  rw[Ci]at kq;refine(rd hb rfl #[_,rfl,rfl,_,rfl,d4 ?_]);refine#[_,rfl,p,dx,fs,rfl,hp,F.dg,rd hb rfl #[_,rfl,_,rfl,b,_,rfl,af.of hb,λL hL=>?_]];have ec:eS ((enc (.put k t)).map V.int) (some 3) none=t.map λn=>V.int (n:Nat):=by
   rw[<-oq];have e1:HT.bz ((enc (.put k t)).map V.int).length 0 (some 3)=3:=by
    have:=HT.nr ((enc (.put k t)).map V.int).length 0 3;rw[show((3:Nat):Int)=3 from rfl]at this;rw[this];simp[enc]
   unfold eS;rw[e1];show List.take (((enc (.put k t)).map V.int).length-3) ((t.map λn=>((n:Nat):Int)).map V.int)=_;exact Yv (by simp[enc])
  rw[ec];have sL:=ai (o:=HO.lst (t.map λn=>V.int (n:Nat))) hL;exact#[p,q,k,.ref L,t,G,rfl,sh.mono sL,tb.mono sL,#[L,rfl,j3 ab (sh.ok.out hL)],λH' r G' sh' t' f' h'=>kq H' r G' sh' t' ((Fz.same sL).trans f') h']
 |drop k=>
  rw[Ck O]at kq;refine(rd hb rfl #[_,rfl,rfl,_,rfl,bG #[_,rfl,rfl,_,rfl,d4 ?_]]);exact#[_,rfl,p,dx,fs,rfl,hp,F.dg,rd hb rfl #[p,q,k,G,rfl,sh,tb,kq]]
 |undo=>
  rw[Cf]at kq;exact(rd hb rfl #[_,rfl,rfl,_,rfl,bG #[_,rfl,rfl,_,rfl,bG #[_,rfl,rfl,_,rfl,d4 #[_,rfl,p,dx,fs,rfl,hp,F.dg,p,q,G,rfl,sh,tb,kq]]]])
 |redo=>
  rw[Cg]at kq;exact(rd hb rfl #[_,rfl,rfl,_,rfl,bG #[_,rfl,rfl,_,rfl,bG #[_,rfl,rfl,_,rfl,bG #[_,rfl,p,dx,fs,rfl,hp,F.dg,p,q,G,rfl,sh,tb,kq]]]])
 |_=>exact kx.elim
def Wl(T:oR mg)(D:bx K mg "answer_words" (top 136) ["designs","call"])(CB:aF P w K mg base 13 kk.D "text" ["self","k"] (fS lB))(CC:aF P w K mg base 13 kk.D "uses" ["self","k"] (fS lC))(CD:aF P w K mg base 13 kk.D "users" ["self","k"] (fS lD)):aH P w K mg base 14 "answer_words" ["designs","call"] (qW qU):=by
 refine D.go ["designs","call","number"] λnd H vs Q E hr h=>?_;obtain⟨p,b,q,c,G,rfl,sh,tb,hb,kx,kq⟩:=h;obtain⟨dx,fs,n,ka,ua,bX,ea,dF,dv,bU,hp,F,_,_,l8,ac,O⟩:=sh.cD;refine#[_,(aC (aR 2 (a0 K (pv 1) aw)) (aM (aL bL (pv 2) (aE T.V1)) (ax (bq CB (pv 0) (au (a0 K (pv 1) aw)))) (aM (aL bL (pv 2) (aE T.V2)) (ax (bq CC (pv 0) (au (a0 K (pv 1) aw)))) (ax (bq CD (pv 0) (au (a0 K (pv 1) aw))))))),?_];have kf:∀(f:Shop->Nat->List Int) (k:Nat),act q c=(q,f q k)->∀H' r,br G H' p q->bJ H'->Fz G G H H'->H' r=some (.lst ((f q k).map V.int))->Q (.ref r) H':=λf k e H' r a b1 c1 d=>by
  rw[e]at kq;exact kq H' r G a b1 c1 d
 cases c with|text k=>exact(rd hb rfl #[_,rfl,rfl,_,rfl,d4 #[_,rfl,p,dx,fs,rfl,hp,F.dg,rd hb rfl #[p,q,k,G,rfl,sh,tb,kf _ k (Cv k)]]])|uses k=>exact(rd hb rfl #[_,rfl,rfl,_,rfl,bG #[_,rfl,rfl,_,rfl,d4 #[_,rfl,p,dx,fs,rfl,hp,F.dg,rd hb rfl #[p,q,k,G,rfl,sh,tb,kf _ k (Ct O k)]]]])|users k=>exact(rd hb rfl #[_,rfl,rfl,_,rfl,bG #[_,rfl,rfl,_,rfl,bG #[_,rfl,p,dx,fs,rfl,hp,F.dg,rd hb rfl #[p,q,k,G,rfl,sh,tb,kf _ k (Cu O k)]]]])|_=>exact kx.elim
def Wm(T:oR mg)(D:bx K mg "answer_drawing" (top 137) ["designs","call"])(CF:aF P w K mg base 13 kk.D "size" ["self","k"] (fS qr))(CG:aF P w K mg base 13 kk.D "draw" ["self","k"] (fS qv))(CH:aF P w K mg base 13 kk.D "halves" ["self","k"] (fS qt))(CI:aF P w K mg base 13 kk.D "same" ["self","j","k"] (Iy iV))(CJ:aF P w K mg base 13 kk.D "fixing" ["self","k"] (fS qu))(CK:aF P w K mg base 13 kk.D "plan" ["self","k"] (fS qJ)):aH P w K mg base 14 "answer_drawing" ["designs","call"] (qW qV):=by
 refine D.go ["designs","call","number"] λnd H vs Q E hr h=>?_;obtain⟨p,b,q,c,G,rfl,sh,tb,hb,kx,kq⟩:=h;obtain⟨dx,fs,n,ka,ua,bX,ea,dF,dv,bU,hp,F,_,_,l8,ac,O⟩:=sh.cD;refine#[_,(aC (aR 2 (a0 K (pv 1) aw)) (aM (aL bL (pv 2) (aE T.V4)) (ax (bq CF (pv 0) (au (a0 K (pv 1) aw)))) (aM (aL bL (pv 2) (aE T.V5)) (ax (bq CG (pv 0) (au (a0 K (pv 1) aw)))) (aM (aL bL (pv 2) (aE T.V6)) (ax (bq CH (pv 0) (au (a0 K (pv 1) aw)))) (aM (aL bL (pv 2) (aE T.V7)) (ax (bq CI (pv 0) (aU (a0 K (pv 1) aw) (a0 K (pv 1) aw)))) (aM (aL bL (pv 2) (aE T.V8)) (ax (bq CJ (pv 0) (au (a0 K (pv 1) aw)))) (ax (bq CK (pv 0) (au (a0 K (pv 1) aw)))))))))),?_];have kf:∀l:List Int,act q c=(q,l)->∀H' r,br G H' p q->bJ H'->Fz G G H H'->H' r=some (.lst (l.map V.int))->Q (.ref r) H':=λl e H' r a b1 c1 d=>by
  rw[e]at kq;exact kq H' r G a b1 c1 d
 cases c with|size k=>exact(rd hb rfl #[_,rfl,rfl,_,rfl,d4 #[_,rfl,p,dx,fs,rfl,hp,F.dg,rd hb rfl #[p,q,k,G,rfl,sh,tb,kf _ (Cm O k)]]])|draw k=>exact(rd hb rfl #[_,rfl,rfl,_,rfl,bG #[_,rfl,rfl,_,rfl,d4 #[_,rfl,p,dx,fs,rfl,hp,F.dg,rd hb rfl #[p,q,k,G,rfl,sh,tb,kf _ (Cn O k)]]]])|halves k=>exact(rd hb rfl #[_,rfl,rfl,_,rfl,bG #[_,rfl,rfl,_,rfl,bG #[_,rfl,rfl,_,rfl,d4 #[_,rfl,p,dx,fs,rfl,hp,F.dg,rd hb rfl #[p,q,k,G,rfl,sh,tb,kf _ (Co O k)]]]]])|same j k=>exact(rd hb rfl #[_,rfl,rfl,_,rfl,bG #[_,rfl,rfl,_,rfl,bG #[_,rfl,rfl,_,rfl,bG #[_,rfl,rfl,_,rfl,d4 #[_,rfl,p,dx,fs,rfl,hp,F.dg,rd hb rfl (rd hb rfl #[p,q,j,k,G,rfl,sh,tb,kf _ (Cq O j k)])]]]]])|fixing k=>exact(rd hb rfl #[_,rfl,rfl,_,rfl,bG #[_,rfl,rfl,_,rfl,bG #[_,rfl,rfl,_,rfl,bG #[_,rfl,rfl,_,rfl,bG #[_,rfl,rfl,_,rfl,d4 #[_,rfl,p,dx,fs,rfl,hp,F.dg,rd hb rfl #[p,q,k,G,rfl,sh,tb,kf _ (Cr O k)]]]]]]])|plan k=>exact(rd hb rfl #[_,rfl,rfl,_,rfl,bG #[_,rfl,rfl,_,rfl,bG #[_,rfl,rfl,_,rfl,bG #[_,rfl,rfl,_,rfl,bG #[_,rfl,rfl,_,rfl,bG #[_,rfl,p,dx,fs,rfl,hp,F.dg,rd hb rfl #[p,q,k,G,rfl,sh,tb,kf _ (Cs O k)]]]]]]])|_=>exact kx.elim
theorem uw(l1:bo.length=9)(l2:us.length=9)(hi:i<9):(Kyq.lessAll bo us).getD i 0=bo.getD i 0-us.getD i 0:=by
 unfold Kyq.lessAll;have h:i<((bo.zip us).map λx=>x.1-x.2).length:=by simp[l1,l2];lia
 rw[XU,XT h,aay,ZI,XU,XT (show i<bo.length by lia),XU,XT (show i<us.length by lia)];rfl
theorem Wn(l1:bo.length=9)(l2:us.length=9)(le:∀i,i<9->us.getD i 0<=bo.getD i 0){c:Nat}(h1:1<=c)(h9:c<=9):Kyq.more (Kyq.lessAll bo us) c n=Kyq.lessAll (bo.set (c-1) (bo.getD (c-1) 0+n)) us:=by
 have ll:(Kyq.lessAll bo us).length=9:=by simp[Kyq.lessAll,l1,l2]
 unfold Kyq.more Kyq.amount;refine YQ (by simp[Kyq.lessAll,l1,l2]) λi h1' h2'=>?_;have hi:i<9:=by simpa[ll]using h1'
 have e1:((Kyq.lessAll bo us).set (c-1) ((Kyq.lessAll bo us).getD (c-1) 0+n)).getD i 0=if c-1=i then(Kyq.lessAll bo us).getD (c-1) 0+n else(Kyq.lessAll bo us).getD i 0:=by
  rw[XU,Zi];by_cases z:c-1=i
  .rw[if_pos z,if_pos (by lia),if_pos z];rfl
  .rw[if_neg z,if_neg z,XU]
 have e2:(Kyq.lessAll (bo.set (c-1) (bo.getD (c-1) 0+n)) us).getD i 0=(bo.set (c-1) (bo.getD (c-1) 0+n)).getD i 0-us.getD i 0:=uw (by simp[l1]) l2 hi;have e3:(bo.set (c-1) (bo.getD (c-1) 0+n)).getD i 0=if c-1=i then bo.getD (c-1) 0+n else bo.getD i 0:=by
  rw[XU,Zi];by_cases z:c-1=i
  .rw[if_pos z,if_pos (by lia),if_pos z];rfl
  .rw[if_neg z,if_neg z,XU]
 have g1:∀ {l:List Nat} (h:i<l.length),l[i]=l.getD i 0:=λh=>by rw[XU,XT h];rfl
 rw[g1 h1',g1 h2',e1,e2,e3];have lc:=le (c-1) (by lia);by_cases z:c-1=i
 .rw[if_pos z,if_pos z,uw l1 l2 (by lia)];subst z
  lia
 .rw[if_neg z,if_neg z,uw l1 l2 hi]
section
def Wo(z:Int):told (Kyq.say z)=[z]:=rfl
def Kk(O:cb q.slots)(c:Nat):act q (.need c)=(q,lP q c):=by
 refine gg rfl ?_;unfold lP;by_cases h:c<1\/9<c
 .rw[if_pos h,if_pos h];rfl
 .rw[if_neg h,if_neg h];refine oB O 0 λb _=>?_;show told (match mV q b c with|none=>Kyq.say (-75)|some n=>Kyq.say ((n:Nat):Int))=_;cases mV q b c<;>rfl
def Kl(O:cb q.slots):act q .lacks=(q,oO q):=by
 refine gg rfl ?_;refine oB O 0 λb _=>?_;show told (match lO q b with|none=>Kyq.say (-75)|some w=>#[((Kyq.count (Kyq.lacking q.stock w):Nat):Int),Kyq.lacking q.stock w])=_;cases lO q b<;>rfl
theorem Km(l1:q.bought.length=9)(l2:q.used.length=9)(so:q.stock=Kyq.lessAll q.bought q.used)(c:Nat):act q (.cloth c)=(q,oK q.bought q.used c):=by
 refine gg rfl ?_;unfold oK;by_cases h:c<1\/9<c
 .rw[if_pos h,if_pos h];rfl
 .rw[if_neg h,if_neg h];show[((Kyq.amount q.stock c:Nat):Int),((Kyq.amount q.bought c:Nat):Int),((Kyq.amount q.used c:Nat):Int)]=_;unfold Kyq.amount;rw[so,uw l1 l2 (by lia)];rfl
def CL(c n:Nat):Kyq.acts (some q) (.buy c n)=some (if c<1\/9<c\/n<1\/1000000<n then(some q,Kyq.say (-22))else if 1000000000<Kyq.amount q.bought c+n then(some q,Kyq.say (-28))else(some {q with stock:=Kyq.more q.stock c n,bought:=Kyq.more q.bought c n},Kyq.say (Kyq.amount q.stock c+n:Nat))):=rfl
theorem Kn(l1:q.bought.length=9)(l2:q.used.length=9)(le:∀i,i<9->q.used.getD i 0<=q.bought.getD i 0)(so:q.stock=Kyq.lessAll q.bought q.used)(c n:Nat):act q (.buy c n)=({q with bought:=(gL q.bought q.used c n).1,stock:=Kyq.lessAll (gL q.bought q.used c n).1 q.used},(gL q.bought q.used c n).2):=by
 have eq0:({q with bought:=q.bought,stock:=Kyq.lessAll q.bought q.used}:Shop)=q:=by rw[<-so]
 unfold gL;by_cases h:c<1\/9<c\/n<1\/1000000<n
 .rw[if_pos h];exact(c7 (a:=Kyq.say (-22)) (by rw[CL,if_pos h])).trans (by rw[eq0];rfl)
 .rw[if_neg h];by_cases h2:1000000000<q.bought.getD (c-1) 0+n
  .rw[if_pos h2];exact(c7 (a:=Kyq.say (-28)) (by rw[CL,if_neg h,if_pos (show 1000000000<Kyq.amount q.bought c+n from h2)])).trans (by rw[eq0];rfl)
  .rw[if_neg h2];refine(c7 (by rw[CL,if_neg h,if_neg (show ¬1000000000<Kyq.amount q.bought c+n from h2)])).trans ?_;have e1:Kyq.amount q.stock c=hand q.bought q.used c:=by
    unfold Kyq.amount;rw[so,uw l1 l2 (by lia)];rfl
   rw[e1,Wo];have e2:Kyq.more q.stock c n=Kyq.lessAll (q.bought.set (c-1) (q.bought.getD (c-1) 0+n)) q.used:=by rw[so];exact Wn l1 l2 le (by lia) (by lia)
   rw[e2];rfl
def qX:Kyq.acts (some q) .begin_=some (if q.work.isSome then(some q,Kyq.say (-16))else if(Kyq.at_ q.slots 0).isNone then(some q,Kyq.say (-2))else match Kyq.quilt q with
  |none=>(some q,Kyq.say (-34))
  |some b=>match Kyq.needs q.m b (Kyq.partsFor b)with
   |none=>(some q,Kyq.say (-75))
   |some w=>if Kyq.count (Kyq.lacking q.stock w)≠0 then(some q,Kyq.say (-35))else
    (some {q with stock:=Kyq.lessAll q.stock w,used:=Kyq.moreAll q.used w,work:=some #[b,Kyq.planFor b,[]]},Kyq.say ((Kyq.partsFor b).length:Nat))):=rfl
def Ko(O:cb q.slots):act q .begin_=kn q:=by
 have eq:Kyq.quilt q=(bM q.slots 0).map Qm.aq:=vN O 0;unfold kn;by_cases h:q.work.isSome=true
 .rw[if_pos h];exact c7 (a:=Kyq.say (-16)) (by rw[qX,if_pos h])
 rw[if_neg h];by_cases e:(Kyq.at_ q.slots 0).isNone=true
 .have er:refOf q 0=-2:=by unfold refOf;rw[if_pos e]
  have ec:fq q=-2:=by unfold fq;rw[er];rfl
  rw[ec,if_pos (by decide)];exact c7 (a:=Kyq.say (-2)) (by rw[qX,if_neg h,if_pos e])
 cases z:bM q.slots 0 with
 |none=>
  have er:refOf q 0=-34:=by unfold refOf;rw[if_neg e,z];rfl
  have ec:fq q=-34:=by unfold fq;rw[er];rfl
  rw[ec,if_pos (by decide)];exact c7 (a:=Kyq.say (-34)) (by rw[qX,if_neg h,if_neg e,eq,z];rfl)
 |some b=>
  have er:refOf q 0=0:=by unfold refOf;rw[if_neg e,z];rfl
  have eb:Kyq.quilt q=some (Qm.aq b):=by rw[eq,z];rfl
  cases a:(dH q b).any Option.isNone with
  |true=>
   have en:Kyq.needs q.m (Qm.aq b) (Kyq.partsFor (Qm.aq b))=none:=B6 a;have ec:fq q=-75:=by unfold fq;rw[er,z];simp[a]
   rw[ec,if_pos (by decide)];exact c7 (a:=Kyq.say (-75)) (by rw[qX,if_neg h,if_neg e,eb];simp only[en])
  |false=>
   obtain⟨w,e1,_⟩:=B7 a;have en:Kyq.needs q.m (Qm.aq b) (Kyq.partsFor (Qm.aq b))=some w:=e1;have ec:fq q=0:=by unfold fq;rw[er,z];simp[a]
   rw[ec,if_neg (by decide)];simp only[e1];by_cases k:Kyq.count (Kyq.lacking q.stock w)≠0
   .rw[if_pos k];exact c7 (a:=Kyq.say (-35)) (by rw[qX,if_neg h,if_neg e,eb];simp only[en,if_pos k])
   .rw[if_neg k];exact c7 (a:=Kyq.say ((Kyq.partsFor (Qm.aq b)).length:Nat)) (by rw[qX,if_neg h,if_neg e,eb];simp only[en,if_neg k])
def Kp(e:q.work=none)(h:(∃i,c=.seam i)\/c=.next\/(∃i,c=.piece i)\/c=.parts\/c=.finish\/c=.halt_):act q c=(q,[-16]):=by
 obtain⟨m,sl,past,ah,st,bo,us,wk,dn⟩:=q;have e:wk=none:=e;subst e;rcases h with⟨i,rfl⟩|rfl|⟨i,rfl⟩|rfl|rfl|rfl<;>rfl
variable(e:q.work=some wk)
include e
theorem xH(i:Nat):Kyq.acts (some q) (.seam i)=some (if Kyq2.seams wk.plan<=i then(some q,Kyq.say (-2))else if wk.sewn.contains i then(some q,Kyq.say (-17))else if Kyq.ready wk i=false then(some q,Kyq.say (-61))else(some {q with work:=some {wk with sewn:=i::wk.sewn}},Kyq.say (Kyq.left {wk with sewn:=i::wk.sewn}:Nat))):=by
 obtain⟨m,sl,past,ah,st,bo,us,eM,dn⟩:=q;have e:eM=some wk:=e;subst e;rfl
theorem Kq(i:Nat):act q (.seam i)=({q with work:=some (fV wk i).1},(fV wk i).2):=by
 have eq0:({q with work:=some wk}:Shop)=q:=by rw[<-e]
 unfold fV;by_cases h1:Kyq2.seams wk.plan<=i
 .rw[if_pos h1];exact(c7 (a:=Kyq.say (-2)) (by rw[xH e,if_pos h1])).trans (by rw[eq0];rfl)
 rw[if_neg h1];by_cases h2:wk.sewn.contains i=true
 .rw[if_pos h2];exact(c7 (a:=Kyq.say (-17)) (by rw[xH e,if_neg h1,if_pos h2])).trans (by rw[eq0];rfl)
 rw[if_neg h2];by_cases h3:Kyq.ready wk i=false
 .rw[if_pos h3];exact(c7 (a:=Kyq.say (-61)) (by rw[xH e,if_neg h1,if_neg h2,if_pos h3])).trans (by rw[eq0];rfl)
 rw[if_neg h3];exact c7 (by rw[xH e,if_neg h1,if_neg h2,if_neg h3])
theorem Kr(b:Rows):act q .next=(q,mR b wk):=by
 obtain⟨m,sl,past,ah,st,bo,us,eM,dn⟩:=q;have e:eM=some wk:=e;subst e;refine gg rfl ?_;unfold mR;show told (match Kyq.nextSeam wk with|none=>Kyq.say (-6)|some i=>Kyq.say ((i:Nat):Int))=_;cases Kyq.nextSeam wk<;>rfl
theorem Ks(fb:aZ b)(hb:wk.block=Qm.aq b)(ins:∀r∈Kyq.pieces wk,Qm.inside (Qm.aq b) r)(i:Nat):act q (.piece i)=(q,mS b wk i):=by
 obtain⟨m,sl,past,ah,st,bo,us,eM,dn⟩:=q;have e:eM=some wk:=e;subst e;refine gg rfl ?_;unfold mS;show told (match(Kyq.pieces wk)[i]? with|none=>Kyq.say (-2)|some r=>#[0,[r.r,r.c,r.h,r.w]++Kyq.patchNumbers (Kyq1.cell wk.block r.r r.c)])=_;cases z:(Kyq.pieces wk)[i]? with|none=>rfl|some r=>
  have hi:=ins r (X_ z);have hj:r.c<Qm.width b:=by
   obtain⟨h1,h2,h3,h4⟩:=hi;have h4:r.c+r.w<=Qm.width b:=h4
   lia
  rw[hb];show told #[0,[r.r,r.c,r.h,r.w]++Kyq.patchNumbers (Kyq1.cell (Qm.aq b) r.r r.c)]=_;rw[Qm.hJ fb.good hj];rfl
theorem Kt(b:Rows):act q .parts=(q,xr b wk):=by
 obtain⟨m,sl,past,ah,st,bo,us,eM,dn⟩:=q;have e:eM=some wk:=e;subst e;rfl
theorem Ku:act q .finish=mY q:=by
 obtain⟨m,sl,past,ah,st,bo,us,eM,dn⟩:=q;have e:eM=some wk:=e;subst e;show act #[m,sl,past,ah,st,bo,us,some wk,dn] .finish=if Kyq.left wk≠0 then(#[m,sl,past,ah,st,bo,us,some wk,dn],[-61])else(#[m,sl,past,ah,st,bo,us,none,dn+1],[(((dn+1)%2147483648:Nat):Int)])
 have ea:Kyq.acts (some #[m,sl,past,ah,st,bo,us,some wk,dn]) .finish=some (if Kyq.left wk≠0 then(some #[m,sl,past,ah,st,bo,us,some wk,dn],Kyq.say (-61))else(some #[m,sl,past,ah,st,bo,us,none,dn+1],Kyq.say ((dn+1)%2^31:Nat))):=rfl;by_cases h:Kyq.left wk≠0
 .rw[if_pos h];exact c7 (a:=Kyq.say (-61)) (by rw[ea,if_pos h])
 .rw[if_neg h];exact c7 (a:=Kyq.say ((dn+1)%2^31:Nat)) (by rw[ea,if_neg h])
theorem Kv:act q .halt_=qS q:=by
 obtain⟨m,sl,past,ah,st,bo,us,eM,dn⟩:=q;have e:eM=some wk:=e;subst e;rfl
omit e in
theorem Kx:act q .state=(q,ur q):=by
 obtain⟨m,sl,past,ah,st,bo,us,eM,dn⟩:=q;cases eM<;>rfl
end
noncomputable def xI:Call->Prop
 |.need _=>True
 |.buy _ _=>True
 |.cloth _=>True
 |.lacks=>True
 |.begin_=>True
 |_=>False
noncomputable def xJ:Call->Prop
 |.seam _=>True
 |.next=>True
 |.piece _=>True
 |.parts=>True
 |.finish=>True
 |.halt_=>True
 |_=>False
inductive xK(ok:Call->Prop)(vs:List V)(H:Hp)(Q:VK)(E:XK):Prop|mk(p b:Addr)(q:Shop)(c:Call)(_:vs=[.ref p,.ref b])(_:dR H p q)(_:H b=some (.lst ((enc c).map V.int)))(_:ok c)(_:∀H' r,dR H' p (act q c).1->Fr H H'->H' r=some (.lst ((act q c).2.map V.int))->Q (.ref r) H')
def Wq(T:oR mg)(S:fj K ww.W)(D:bx K mg "answer_cloth" (top 138) ["shop","call"])(CM:aF P w K mg base 14 ww.W "need" ["self","c"] (J6))(CN:aF P w K mg base 2 ww.T "buy" ["self","c","n"] (JM ww.T))(CO:aF P w K mg base 2 ww.T "cloth" ["self","c"] (JO ww.T))(CP:aF P w K mg base 16 ww.W "lacks" ["self"] (km (λ_=>True) λq=>(q,oO q)))(CQ:aF P w K mg base 16 ww.W "begin" ["self"] (km (λ_=>True) kn)):aH P w K mg base 17 "answer_cloth" ["shop","call"] (xK xI):=by
 refine D.go ["shop","call","number"] λnd H vs Q E hr h=>?_;obtain⟨p,b,q,c,rfl,wa,hb,kx,kq⟩:=h;have jF:=wa;obtain⟨G,B,d,st,ba,ua,wv,wb⟩:=wa;obtain⟨dx,hp⟩:=wb.me;obtain⟨ds,hs⟩:=wb.fB;obtain⟨_,_,_,_,_,_,_,_,_,_,_,_,_,_,_,_,O⟩:=wb.sh.cD;refine#[_,(aC (aR 2 (a0 K (pv 1) aw)) (aM (aL bL (pv 2) (aE T.V_)) (ax (bq CM (pv 0) (au (a0 K (pv 1) aw)))) (aM (aL bL (pv 2) (aE T.Wa)) (ax (bq CN (aK K (pv 0)) (aU (a0 K (pv 1) aw) (a0 K (pv 1) aw)))) (aM (aL bL (pv 2) (aE T.Wb)) (ax (bq CO (aK K (pv 0)) (au (a0 K (pv 1) aw)))) (aM (aL bL (pv 2) (aE T.Wc)) (ax (eT CP (pv 0))) (ax (eT CQ (pv 0)))))))),?_];cases c with
 |need k=>
  rw[Kk O]at kq;exact(rd hb rfl #[_,rfl,rfl,_,rfl,d4 #[_,rfl,p,dx,_,rfl,hp,rfl,rd hb rfl #[p,q,k,rfl,jF,kq]]])
 |buy k n=>
  rw[Kn wb.l1 wb.l2 wb.le wb.so]at kq;refine(rd hb rfl #[_,rfl,rfl,_,rfl,bG #[_,rfl,rfl,_,rfl,d4 ?_]]);refine#[_,rfl,p,ww.W,dx,_,_,rfl,hp,S.cl,(S.a7 "stock"),rfl,st,ds,_,rfl,hs,rfl,rd hb rfl (rd hb rfl #[st,ba,q.bought,q.used,k,n,rfl,wb.ug,λH' r sk sx h=>?_])];exact kq H' r #[G,B,d,st,ba,ua,wv,wb.bought sx sk.2 sk.3 sk.5] (λc o u e=>sx _ _ e λz=>by rw[z,wb.bo]at e;cases e) h
 |cloth k=>
  rw[Km wb.l1 wb.l2 wb.so]at kq;refine(rd hb rfl #[_,rfl,rfl,_,rfl,bG #[_,rfl,rfl,_,rfl,bG #[_,rfl,rfl,_,rfl,d4 ?_]]]);exact#[_,rfl,p,ww.W,dx,_,_,rfl,hp,S.cl,(S.a7 "stock"),rfl,st,ds,_,rfl,hs,rfl,rd hb rfl #[st,ba,q.bought,q.used,k,rfl,wb.ug,λH' r s h=>kq H' r (jF.mono s) (Fr.same s) h]]
 |lacks=>
  rw[Kl O]at kq;exact(rd hb rfl #[_,rfl,rfl,_,rfl,bG #[_,rfl,rfl,_,rfl,bG #[_,rfl,rfl,_,rfl,bG #[_,rfl,rfl,_,rfl,d4 #[_,rfl,p,dx,_,rfl,hp,rfl,p,q,rfl,jF,trivial,kq]]]]])
 |begin_=>
  rw[Ko O]at kq;exact(rd hb rfl #[_,rfl,rfl,_,rfl,bG #[_,rfl,rfl,_,rfl,bG #[_,rfl,rfl,_,rfl,bG #[_,rfl,rfl,_,rfl,bG #[_,rfl,p,dx,_,rfl,hp,rfl,p,q,rfl,jF,trivial,kq]]]]])
 |_=>exact kx.elim
def Wr(VV:jE mg)(T:oR mg)(S:fj K ww.W)(D:bx K mg "answer_sewing" (top 139) ["shop","call"])(CS:aF P w K mg base 2 ww.Z "seam" ["self","i"] (JI ww.Z))(CT:aF P w K mg base 2 ww.Z "next_seam" ["self"] (t_ ww.Z mR))(CU:aF P w K mg base 2 ww.Z "piece" ["self","i"] (JK ww.Z mS))(qR:aF P w K mg base 2 ww.Z "parts" ["self"] (t_ ww.Z xr))(CV:aF P w K mg base 2 ww.W "finish" ["self"] (km (λq=>q.work.isSome=true) mY))(CW:aF P w K mg base 2 ww.W "stop" ["self"] (km (λq=>q.work.isSome=true) qS)):aH P w K mg base 3 "answer_sewing" ["shop","call"] (xK xJ):=by
 refine D.go ["shop","call","number"] λnd H vs Q E hr h=>?_;obtain⟨p,b,q,c,rfl,wa,hb,kx,kq⟩:=h;have jF:=wa;obtain⟨G,B,d,st,ba,ua,wv,wb⟩:=wa;obtain⟨dx,hp⟩:=wb.me;refine#[_,(aM (aL jN (aK K (pv 0)) b_) (ax (aV (au (aE VV.Vd)))) (aC (aR 2 (a0 K (pv 1) aw)) (aM (aL bL (pv 2) (aE T.We)) (ax (bq CS (aK K (pv 0)) (au (a0 K (pv 1) aw)))) (aM (aL bL (pv 2) (aE T.Wf)) (ax (eT CT (aK K (pv 0)))) (aM (aL bL (pv 2) (aE T.Wg)) (ax (bq CU (aK K (pv 0)) (au (a0 K (pv 1) aw)))) (aM (aL bL (pv 2) (aE T.Wh)) (ax (eT qR (aK K (pv 0)))) (aM (aL bL (pv 2) (aE T.Wi)) (ax (eT CV (pv 0))) (ax (eT CW (pv 0)))))))))),?_];refine#[_,rfl,p,ww.W,dx,_,_,rfl,hp,S.cl,(S.a7 "sewing"),rfl,rfl,_,rfl,bg (λh=>?_) (λh=>?_)]
 .have ew:q.work=none:=by
   cases z:q.work with|none=>rfl|some wk=>
    obtain⟨x,sa,b,e,_⟩:=wb.qL z;rw[e]at h;simp at h
  have ea:act q c=(q,[-16]):=Kp ew (by cases c<;>first|exact kx.elim|simp);rw[ea]at kq;exact#[bu,λr hr0=>kq _ r (jF.mono (ai hr0)) (Fr.same (ai hr0)) ab]
 have ew:q.work.isSome=true:=by
  cases z:q.work with|none=>rw[wb.none_ z]at h;simp at h|some wk=>rfl
 obtain⟨wk,x,sa,b2,dz,pa,ea,ku,rfl,hx,sat,m,n⟩:=wb.Ce ew;have kf:∀l:List Int,act q c=(q,l)->∀H' r,ag H H'->H' r=some (.lst (l.map V.int))->Q (.ref r) H':=λl e H' r s h=>by
  rw[e]at kq;exact kq H' r (jF.mono s) (Fr.same s) h
 cases c with
 |seam i=>
  rw[Kq ku]at kq;refine(rd hb rfl #[_,rfl,rfl,_,rfl,d4 ?_]);refine#[_,rfl,p,ww.W,dx,_,_,rfl,hp,S.cl,(S.a7 "sewing"),rfl,x,dz,_,rfl,hx,rfl,rd hb rfl #[x,sa,b2,wk,i,rfl,sat,λH' r sat' sx h=>?_]];have Ky:(fV wk i).1.block=wk.block/\(fV wk i).1.plan=wk.plan:=by
   unfold fV;split
   .exact#[rfl,rfl]
   .split
    .exact#[rfl,rfl]
    .split<;>exact#[rfl,rfl]
  exact kq H' r #[G,B,d,st,ba,ua,.ref x,wb.sewn ku rfl sat m n sx sat' Ky.1 Ky.2] (λc o u e=>sx _ _ e λz=>by
   obtain⟨xs,hl⟩:=wb.ls sa m;rw[z,hl]at e;cases e) h
 |next=>exact(rd hb rfl #[_,rfl,rfl,_,rfl,bG #[_,rfl,rfl,_,rfl,d4 #[_,rfl,p,ww.W,dx,_,_,rfl,hp,S.cl,(S.a7 "sewing"),rfl,x,dz,_,rfl,hx,rfl,x,sa,b2,wk,rfl,sat,kf _ (Kr ku b2)]]])
 |piece i=>exact(rd hb rfl #[_,rfl,rfl,_,rfl,bG #[_,rfl,rfl,_,rfl,bG #[_,rfl,rfl,_,rfl,d4 #[_,rfl,p,ww.W,dx,_,_,rfl,hp,S.cl,(S.a7 "sewing"),rfl,x,dz,_,rfl,hx,rfl,rd hb rfl #[x,sa,b2,wk,i,rfl,sat,kf _ (Ks ku sat.5 sat.4 sat.7 i)]]]]])
 |parts=>exact(rd hb rfl #[_,rfl,rfl,_,rfl,bG #[_,rfl,rfl,_,rfl,bG #[_,rfl,rfl,_,rfl,bG #[_,rfl,rfl,_,rfl,d4 #[_,rfl,p,ww.W,dx,_,_,rfl,hp,S.cl,(S.a7 "sewing"),rfl,x,dz,_,rfl,hx,rfl,x,sa,b2,wk,rfl,sat,kf _ (Kt ku b2)]]]]])
 |finish=>
  rw[Ku ku]at kq;exact(rd hb rfl #[_,rfl,rfl,_,rfl,bG #[_,rfl,rfl,_,rfl,bG #[_,rfl,rfl,_,rfl,bG #[_,rfl,rfl,_,rfl,bG #[_,rfl,rfl,_,rfl,d4 #[_,rfl,p,dx,_,rfl,hp,rfl,p,q,rfl,jF,ew,kq]]]]]])
 |halt_=>
  rw[Kv ku]at kq;exact(rd hb rfl #[_,rfl,rfl,_,rfl,bG #[_,rfl,rfl,_,rfl,bG #[_,rfl,rfl,_,rfl,bG #[_,rfl,rfl,_,rfl,bG #[_,rfl,rfl,_,rfl,bG #[_,rfl,p,dx,_,rfl,hp,rfl,p,q,rfl,jF,ew,kq]]]]]])
 |_=>exact kx.elim
def num(c:Call):Int:=(enc c).headD 0
def Ws(c:Call):((enc c).map V.int)[0]?=some (.int (num c)):=by cases c<;>rfl
def kinds(c:Call):(∃m,c=.start m)\/(qT c/\1<=num c/\num c<=4)\/(qU c/\5<=num c/\num c<=7)\/(qV c/\8<=num c/\num c<=13)\/(xI c/\14<=num c/\num c<=18)\/(xJ c/\19<=num c/\num c<=24)\/c=.state:=by cases c<;>simp[qT,qU,qV,xI,xJ,num,enc]
structure Keeps(q' q:Shop):Prop where
 m:q'.m=q.m
 bo:q'.bought=q.bought
 us:q'.used=q.used
 st:q'.stock=q.stock
 wk:q'.work=q.work
 dn:q'.done=q.done
def Keeps.refl(q:Shop):Keeps q q:=#[rfl,rfl,rfl,rfl,rfl,rfl]
def Wt(O:cb q.slots)(h:qT c\/qU c\/qV c):Keeps (act q c).1 q:=by
 cases c with
 |put k t=>
  rw[Ci];unfold iX;split
  .exact Keeps.refl q
  .split
   .exact Keeps.refl q
   .split
    .exact Keeps.refl q
    .exact#[rfl,rfl,rfl,rfl,rfl,rfl]
 |drop k=>
  rw[Ck O];unfold jB;split
  .exact Keeps.refl q
  .split
   .exact Keeps.refl q
   .exact#[rfl,rfl,rfl,rfl,rfl,rfl]
 |undo=>
  rw[Cf];unfold kb;split<;>exact#[rfl,rfl,rfl,rfl,rfl,rfl]
 |redo=>
  rw[Cg];unfold ke;split<;>exact#[rfl,rfl,rfl,rfl,rfl,rfl]
 |text k=>rw[Cv];exact Keeps.refl q
 |uses k=>rw[Ct O];exact Keeps.refl q
 |users k=>rw[Cu O];exact Keeps.refl q
 |size k=>rw[Cm O];exact Keeps.refl q
 |draw k=>rw[Cn O];exact Keeps.refl q
 |halves k=>rw[Co O];exact Keeps.refl q
 |same j k=>rw[Cq O];exact Keeps.refl q
 |fixing k=>rw[Cr O];exact Keeps.refl q
 |plan k=>rw[Cs O];exact Keeps.refl q
 |_=>rcases h with h|h|h<;>exact h.elim
def CY(m:Measures):act q (.start m)=(if Kyq.okMeasures m=false then q else Kyq.begun m,[if Kyq.okMeasures m=false then -22 else 0]):=by
 have ea:Kyq.acts (some q) (.start m)=some (if Kyq.okMeasures m=false then(some q,Kyq.say (-22))else(some (Kyq.begun m),Kyq.say 0)):=rfl;by_cases h:Kyq.okMeasures m=false
 .rw[if_pos h,if_pos h];exact c7 (a:=Kyq.say (-22)) (by rw[ea,if_pos h])
 .rw[if_neg h,if_neg h];exact c7 (a:=Kyq.say 0) (by rw[ea,if_neg h])
inductive Kz(vs:List V)(H:Hp)(Q:VK)(E:XK):Prop|mk(p b:Addr)(q:Shop)(c:Call)(H0:Hp)(_:vs=[.ref p,.ref b])(_:H=upd H0 b (.lst ((enc c).map V.int)))(_:H0 b=none)(_:dR H0 p q)(_:∀H' r,dR H' p (act q c).1->Fr H H'->H' r=some (.lst ((act q c).2.map V.int))->Q (.ref r) H')
theorem Wu(T:oR mg)(ko:Kw.Ok)(S:fj K ww.W)(D:bx K mg "answer_call" (top 140) ["shop","call"])(CZ:aF P w K mg base 9 ww.W "start" ["self","wide","unit","edge"] (J5))(C0:aH P w K mg base 14 "answer_change" ["designs","call"] (qW qT))(C1:aH P w K mg base 14 "answer_words" ["designs","call"] (qW qU))(C2:aH P w K mg base 14 "answer_drawing" ["designs","call"] (qW qV))(C3:aH P w K mg base 17 "answer_cloth" ["shop","call"] (xK xI))(C4:aH P w K mg base 3 "answer_sewing" ["shop","call"] (xK xJ))(C5:aF P w K mg base 1 ww.W "state" ["self"] (km (λ_=>True) λq=>(q,ur q))):aH P w K mg base 18 "answer_call" ["shop","call"] (Kz):=by
 refine D.go ["shop","call","number"] λnd H vs Q E hr h=>?_;obtain⟨p,b,q,c,H0,rfl,eH,nb,⟨G,B,d,st,ba,ua,wv,KA⟩,kq⟩:=h;have hb:H b=some (.lst ((enc c).map V.int)):=by rw[eH];exact ab
 have wb:WB G B H p d st ba ua wv q:=by rw[eH];exact KA.mono (ai nb)
 have bB:b∉B:=λz=>by obtain⟨xs,e⟩:=KA.ls b z;rw[nb]at e;cases e
 have hbo:off B H b=some (.lst ((enc c).map V.int)):=by rw[dC bB];exact hb
 have wa:dR H p q:=#[G,B,d,st,ba,ua,wv,wb]
 obtain⟨dx,hp,hpo⟩:=wb.um;obtain⟨_,_,_,_,_,_,_,_,_,_,_,_,_,_,_,_,O⟩:=wb.sh.cD;refine#[_,(aC (aR 2 (a0 K (pv 1) aw)) (aM (aL bL (pv 2) (aE T.VW)) (ax (bq CZ (pv 0) (bC (a0 K (pv 1) aw) (aU (a0 K (pv 1) aw) (a0 K (pv 1) aw))))) (aM (aL dN (pv 2) (aE T.V0)) (ax (oM wb.nd (bh C0 (aU (aK K (pv 0)) (pv 1))))) (aM (aL dN (pv 2) (aE T.V3)) (ax (oM wb.nd (bh C1 (aU (aK K (pv 0)) (pv 1))))) (aM (aL dN (pv 2) (aE T.V9)) (ax (oM wb.nd (bh C2 (aU (aK K (pv 0)) (pv 1))))) (aM (aL dN (pv 2) (aE T.Wd)) (ax (bh C3 (aU (pv 0) (pv 1)))) (aM (aL dN (pv 2) (aE T.Wj)) (ax (bh C4 (aU (pv 0) (pv 1)))) (ax (eT C5 (pv 0)))))))))),?_];have C6:(qT c\/qU c\/qV c)->∀H' r G',br G' H' d (act q c).1->bJ H'->Fz G G' (off B H) H'->H' r=some (.lst ((act q c).2.map V.int))->(∀a∈B,H' a=none)->Q (.ref r) (cV B H H'):=λk H' r G' sh t f h hn=>by
  have e:=Wt O k;exact kq _ r #[G',B,d,st,ba,ua,wv,wb.call ko sh t f hn e.m e.bo e.us e.st e.wk e.dn] (wb.fr f hn) (ue hn _ _ h)
 have to:=uf wb.tb wb.ls;have n0:=Ws c;refine(rd hb n0 #[_,rfl,rfl,_,rfl,?_]);rcases kinds c with⟨m,rfl⟩|⟨k,h1,h2⟩|⟨k,h1,h2⟩|⟨k,h1,h2⟩|⟨k,h1,h2⟩|⟨k,h1,h2⟩|rfl
 .rw[CY]at kq;exact d4 #[_,rfl,p,dx,_,rfl,hp,rfl,rd hb rfl (rd hb rfl (rd hb rfl #[p,q,m,rfl,wa,kq]))]
 .exact bG #[_,rfl,_,_,rfl,rfl,_,rfl,uu h2 #[wb.ls,_,rfl,p,ww.W,dx,_,_,rfl,hpo,S.cl,(S.a7 "designs"),rfl,_,rfl,d,b,q,c,G,rfl,wb.sh,to,hbo,k,C6 (.inl k)]] (by lia)
 .exact bG #[_,rfl,_,_,rfl,rfl,_,rfl,gh (by lia) #[_,rfl,_,_,rfl,rfl,_,rfl,uu h2 #[wb.ls,_,rfl,p,ww.W,dx,_,_,rfl,hpo,S.cl,(S.a7 "designs"),rfl,_,rfl,d,b,q,c,G,rfl,wb.sh,to,hbo,k,C6 (.inr (.inl k))]]] (by lia)
 .exact bG #[_,rfl,_,_,rfl,rfl,_,rfl,gh (by lia) #[_,rfl,_,_,rfl,rfl,_,rfl,gh (by lia) #[_,rfl,_,_,rfl,rfl,_,rfl,uu h2 #[wb.ls,_,rfl,p,ww.W,dx,_,_,rfl,hpo,S.cl,(S.a7 "designs"),rfl,_,rfl,d,b,q,c,G,rfl,wb.sh,to,hbo,k,C6 (.inr (.inr k))]]]] (by lia)
 .exact bG #[_,rfl,_,_,rfl,rfl,_,rfl,gh (by lia) #[_,rfl,_,_,rfl,rfl,_,rfl,gh (by lia) #[_,rfl,_,_,rfl,rfl,_,rfl,gh (by lia) #[_,rfl,_,_,rfl,rfl,_,rfl,uu h2 #[_,rfl,_,rfl,p,b,q,c,rfl,wa,hb,k,kq]]]]] (by lia)
 .exact bG #[_,rfl,_,_,rfl,rfl,_,rfl,gh (by lia) #[_,rfl,_,_,rfl,rfl,_,rfl,gh (by lia) #[_,rfl,_,_,rfl,rfl,_,rfl,gh (by lia) #[_,rfl,_,_,rfl,rfl,_,rfl,gh (by lia) #[_,rfl,_,_,rfl,rfl,_,rfl,uu h2 #[_,rfl,_,rfl,p,b,q,c,rfl,wa,hb,k,kq]]]]]] (by lia)
 .rw[Kx]at kq;exact bG #[_,rfl,_,_,rfl,rfl,_,rfl,gh (by decide) #[_,rfl,_,_,rfl,rfl,_,rfl,gh (by decide) #[_,rfl,_,_,rfl,rfl,_,rfl,gh (by decide) #[_,rfl,_,_,rfl,rfl,_,rfl,gh (by decide) #[_,rfl,_,_,rfl,rfl,_,rfl,gh (by decide) #[_,rfl,p,dx,_,rfl,hp,rfl,p,q,rfl,wa,trivial,kq]]]]]]
def oS(O:cb q.slots)(k:Nat){g:Rows->List Int}(h:∀b,aZ b->(g b).length<=3001):(fR q k g).length<=3001:=by
 unfold fR;split
 .exact show 1<=3001 by decide
 .cases z:bM q.slots k with
  |none=>exact show 1<=3001 by decide
  |some b=>exact h b (jW O z)
theorem Wv(fb:aZ b):b.flatten.length<=36:=by
 have h6:=fb.good.h6;have w6:=fb.good.w6;have AX:=fb.good.row;have gen:∀(l:Rows) (m:Nat),(∀x∈l,x.length<=m)->l.flatten.length<=l.length*m:=by
  intro l m
  induction l with|nil=>intro _;simp|cons x r ih=>
   intro hx;have a1:=hx x (by simp);have a2:=ih λy hy=>hx y (by simp[hy]);rw[Yt,XY,X2,YY]
   lia
 have g6:=gen b 6 λx hx=>by rw[AX x hx];exact w6
 lia
theorem KC:∀l:List Kyq1.Patch,(l.flatMap Kyq.patchNumbers).length=3*l.length
 |[]=>rfl
 |p::l=>by
  rw[Yy,XY,KC l,X2];show 3+3*l.length=_
  lia
theorem br.words(h:br G H p q){k:Nat}{e:Kyq1.Exp}(hk:Kyq.at_ q.slots k=some e):(Kyq1.written e).length<=3000:=by
 obtain⟨dx,fs,n,ka,ua,bX,ea,dF,dv,bU,_,_,hnm,_⟩:=h.cD;obtain⟨_,_,_,_,_,_,_,_,_,⟨a,vs,_,_,pr⟩,_⟩:=hnm;have hk:q.slots[k]?=some (some e):=by
  unfold Kyq.at_ at hk;rw[XU]at hk;cases z:q.slots[k]? with|none=>rw[z]at hk;cases hk|some o=>rw[z]at hk;exact congrArg some hk
 obtain⟨_,_,_,t,_⟩:=Paired.get pr hk;have:=j9 e
 lia
theorem Ww(h:dR H p q)(c:Call):(act q c).2.length<=3001:=by
 obtain⟨G,B,d,st,ba,ua,wv,wb⟩:=h;obtain⟨_,_,_,_,_,_,_,_,_,_,_,_,_,_,_,_,O⟩:=wb.sh.cD;have one:∀z:Int,[z].length<=3001:=λz=>show 1<=3001 by decide
 have fN:∀ {c:Call},((∃i,c=.seam i)\/c=.next\/(∃i,c=.piece i)\/c=.parts\/c=.finish\/c=.halt_)->(∀wk,q.work=some wk->(act q c).2.length<=3001)->(act q c).2.length<=3001:=λ{c} h k=>by
  cases z:q.work with|none=>rw[Kp z h];exact one _|some wk=>exact k wk z
 cases c with
 |start m=>rw[CY];exact one _
 |put k t=>
  rw[Ci];unfold iX;split
  .exact one _
  .split
   .exact one _
   .split<;>exact one _
 |drop k=>
  rw[Ck O];unfold jB;split
  .exact one _
  .split<;>exact one _
 |undo=>rw[Cf];unfold kb;split<;>exact one _
 |redo=>rw[Cg];unfold ke;split<;>exact one _
 |text k=>
  rw[Cv];show(lB q k).length<=3001;unfold lB;cases z:Kyq.at_ q.slots k with|none=>exact one _|some e=>
   have:=wb.sh.words z;show(_::List.map _ _).length<=_;rw[X2,XX]
   lia
 |uses k=>rw[Ct O];show(lC q k).length<=3001;unfold lC;split<;>exact one _
 |users k=>rw[Cu O];show(lD q k).length<=3001;unfold lD;split<;>exact one _
 |size k=>rw[Cm O];exact oS O k λb _=>show 2<=3001 by decide
 |draw k=>
  rw[Cn O];refine oS O k λb fb=>?_;have:=Wv fb;rw[X2,X2,XX,KC]
  lia
 |halves k=>
  rw[Co O];refine oS O k λb fb=>?_;rw[X2,XX,show(halves b.flatten).length=9 from sO _ _ rfl];decide
 |same j k=>
  rw[Cq O];show(iV q j k).length<=3001;unfold iV;split
  .exact one _
  .split<;>exact one _
 |fixing k=>rw[Cr O];exact oS O k λb _=>show 2<=3001 by decide
 |plan k=>
  rw[Cs O];refine oS O k λb fb=>?_;have:=sF fb.good;rw[X2,XX,nR]
  lia
 |need k=>
  rw[Kk O];show(lP q k).length<=3001;unfold lP;split
  .exact one _
  .refine oS O 0 λb _=>?_;split<;>exact one _
 |buy k n=>
  rw[Kn wb.l1 wb.l2 wb.le wb.so];show(gL q.bought q.used k n).2.length<=3001;unfold gL;split
  .exact one _
  .split<;>exact one _
 |cloth k=>
  rw[Km wb.l1 wb.l2 wb.so];show(oK q.bought q.used k).length<=3001;unfold oK;split
  .exact one _
  .exact show 3<=3001 by decide
 |lacks=>
  rw[Kl O];refine oS O 0 λb _=>?_;cases z:(dH q b).any Option.isNone with|true=>rw[B6 z];exact one _|false=>
   obtain⟨w,e1,_,l9⟩:=B7 z;rw[e1];show(_::List.map _ _).length<=_;rw[X2,XX,wb.so,B_ wb.l1 wb.l2 l9];simp[dh]
 |begin_=>
  rw[Ko O];unfold kn;split
  .exact one _
  .split
   .exact one _
   .split
    .exact show 0<=3001 by decide
    .split
     .exact show 0<=3001 by decide
     .split<;>exact one _
 |seam i=>
  refine fN (.inl #[i,rfl]) λwk e=>?_;rw[Kq e];show(fV wk i).2.length<=3001;unfold fV;split
  .exact one _
  .split
   .exact one _
   .split<;>exact one _
 |next=>
  refine fN (.inr (.inl rfl)) λwk e=>?_;rw[Kr e []];show(mR [] wk).length<=3001;unfold mR;split<;>exact one _
 |piece i=>
  refine fN (.inr (.inr (.inl #[i,rfl]))) λwk e=>?_;obtain⟨x,sa,b,_,sat,_⟩:=wb.qL e;rw[Ks e sat.5 sat.4 sat.7];show(mS b wk i).length<=3001;unfold mS;split
  .exact one _
  .exact show 8<=3001 by decide
 |parts=>
  refine fN (.inr (.inr (.inr (.inl rfl)))) λwk e=>?_;rw[Kt e []];exact one _
 |finish=>
  refine fN (.inr (.inr (.inr (.inr (.inl rfl))))) λwk e=>?_;rw[Ku e];unfold mY;rw[e];show(if _ then _ else _:Shop×List Int).2.length<=_;split<;>exact one _
 |halt_=>
  refine fN (.inr (.inr (.inr (.inr (.inr rfl))))) λwk e=>?_;rw[Kv e];unfold qS;rw[e];exact one _
 |state=>rw[Kx];exact show 4<=3001 by decide
end QS
namespace L2
open PySem PySem.Spec PyProof.Rows
open PySem.W (WData Codec OpenSpec Well WellAll ReadsW ReadsAllW CodeHd TabsAt)
variable{tabs:List (Addr×Addr)}{H H':Hp}{a b:Addr}{K:ZX}{xs:List V}
def jH(tabs:List (Addr×Addr))(H:Hp):Hp:=λb=>if b∈tabs.map (·.2)then some (.bK #[])else H b
def KD(h:b∈tabs.map (·.2)):jH tabs H b=some (.bK #[]):=by unfold jH;rw[if_pos h]
def qY(h:b∉tabs.map (·.2)):jH tabs H b=H b:=by unfold jH;rw[if_neg h]
structure xM(tabs:List (Addr×Addr))(H:Hp):Prop where
 tab:∀q∈tabs,H q.2=some (.bK #[])
 only:∀b,b∉tabs.map (·.2)->H b=none\/aX λo u=>H b=some (.cJ o u)
def Wx(s:ag H H')(h:af K H a xs):af K H' a xs:=s.seq h
def Wy(e:ag H H')(h:aI K H a xs):aI K H' a xs:=by
 rcases h with(h|⟨o,h⟩)|h
 .exact .inl (.inl (e _ _ h))
 .exact .inl (.inr #[o,e _ _ h])
 .exact .inr h
mutual
theorem Dw.mono(s:ag H H'):∀(d:WData) (v:V),Dw K H v d->Dw K H' v d
 |.none,_,x=>by cases x;exact .ay
 |.bool b,_,x=>by cases x;exact .bl b
 |.int i,_,x=>by cases x;exact .int i
 |.str t,_,x=>by cases x;exact .str t
 |.bytes b,_,x=>by cases x;exact .d6 _
 |.list ds,_,x=>by cases x with|lst hs ha=>exact .lst (Wx s hs) (Dw.xN s ds _ ha)
 |.tuple ds,_,x=>by cases x with|tup hs ha=>exact .tup (Wy s hs) (Dw.xN s ds _ ha)
 |.float _,_,x=>by cases x
 |.dict _,_,x=>by cases x
 |.bytearray _,_,x=>by cases x
 |.set _,_,x=>by cases x
 |.frozenset _,_,x=>by cases x
 |.obj _ _,_,x=>by cases x
theorem Dw.xN(s:ag H H'):∀(ds:List WData) (vs:List V),g9 K H vs ds->g9 K H' vs ds
 |[],_,x=>by cases x;exact .nil
 |d::ds,_,x=>by cases x with|cons a b=>exact .cons (Dw.mono s d _ a) (Dw.xN s ds _ b)
end
def Wz{P:Program}{w:World}{mg mb:ZQ}{CX:lU}{k:Nat}{fa:Addr}{fd:FuncData}{ps:List Str}{sp:Sp}{s₁:Shared}{vals:List Value}{ds:List WData}{R:PySem.W.WRecords}{cl:Str->Option Addr}{d0:WData}
  (KX:K.In s₁.heap) (hns:s₁.heap.Ns mainGlobals mg) (hb:s₁.heap.Ns builtinsNs mb) (hbb:∀x:Str,x≠"__name__"->mb x=bootBuiltins x) (hlim:s₁.heap.NoLimit) (hg:s₁.gens=#[]) (hT:TabsAt tabs s₁.heap) (C7:PySem.W.noTabs K=true) (WA:ql mg s₁.heap)
  (hwl:WellAll w.params s₁.heap vals ds) (hpl:iN ds=true) (WC:∀d∈ds,d.weight<=1048576) (hr:bR k callerA)
  (F:∀base:Heap,K.In base->base.Ns mainGlobals mg->(∀q∈tabs,CodeHd base q.1 q.2)->ql mg base->eR P w K mg base CX k fa fd ps sp) (hbind:∀(s:Shared) (us:List Value),us.length=ps.length->BindsTo s fd #[us,[]] (ps.zip us)) (hlen:ds.length=ps.length)
  (hsp:∀(H:Hp) (xs:List V),xM tabs H->g9 K H xs ds->sp xs H (λv H'=>Dw K H' v d0) λ_ _ _=>False)
  (C8:∀H e s',CX [] H s₁ (λ_ _ _=>False) e s'->False):
  codeAny (model P w) callerA (.call (.ref fa) #[vals,[]]) (λr s'=>aX λu as=>r=.ok (.ret u)/\ReadsW R cl s'.heap u d0 as/\OldK s₁.heap s'.heap/\s'.os=s₁.os/\AllBare s'.gens) s₁:=by
 obtain⟨A,ho,ar⟩:=vf ds vals hwl hpl WC;have isSeq:∀ {b:Addr} {u:HO},cS K s₁.heap A b=some u->aX λ(c:Value) (vs:List Value)=>s₁.heap.get? b=some {cls:=c,data:=.seq vs.toArray}/\c≠.none:=λ{b u} q=>by
  obtain⟨_,vs,_,_,⟨e2,_⟩|⟨e2,_⟩⟩:=vi ar q
  .exact#[_,vs,e2,λz=>by cases z]
  .exact#[_,vs,e2,λz=>by cases z]
 have ux:∀b,b∈tabs.map (·.2)->s₁.heap.get? b=some (PySem.W.tabObj #[]):=λb hb=>by
  obtain⟨q,hq,rfl⟩:=Yp.mp hb;exact(hT q hq).2
 have apart:∀b u,cS K s₁.heap A b=some u->b∉tabs.map (·.2):=λb u q hb=>by
  obtain⟨c,vs,e,n⟩:=isSeq q;rw[ux b hb]at e;cases e
 have sA:ag (cS K s₁.heap A) (jH tabs (cS K s₁.heap A)):=λb u q=>by rw[qY (apart b u q)];exact q
 have st:xM tabs (jH tabs (cS K s₁.heap A)):=#[λq hq=>KD (Zx hq),λb hb=>by rw[qY hb];exact E5 ar b]
 have aJ:bY P w (jH tabs (cS K s₁.heap A)) s₁.heap:=λb u q=>by
  by_cases hb:b∈tabs.map (·.2)
  .rw[KD hb]at q;cases q;exact ux b hb
  .rw[qY hb]at q;have nO:∀c,cS K s₁.heap A c≠some (.own b):=λc z=>by
    rcases E5 (K:=K) ar c with y|⟨_,_,y⟩<;>rw[y]at z<;>cases z
   exact(Oi (P:=P) (w:=w) ar b u q).gQ (λc v _ r=>r) (λc r=>absurd r (nO c)) λc xs r=>sA c _ r
 have hS:=Dw.xN sA _ _ (vk KX ar ds vals hwl hpl ho);have hV:=pH ho;have hfree:∀ {b:Addr} {o:Obj},s₁.heap.get? b=some o->o.cls≠.none->(∀vs:List Value,o.data≠.seq vs.toArray)->jH tabs (cS K s₁.heap A) b=none:=λ{b o} e hc hd=>by
  rw[qY (λhb=>by rw[ux b hb]at e;cases e;exact hc rfl)];cases q:cS K s₁.heap A b with|none=>rfl|some u=>
   obtain⟨c,vs,e2,_⟩:=isSeq q;rw[e2]at e;cases e;exact absurd rfl (hd vs)
 have KG:∀ {b:Addr} {o:Obj} {es:Array DictEntry} {ep:Nat},s₁.heap.get? b=some o->o.data=.dict es ep->jH tabs (cS K s₁.heap A) b=none:=λ{b o es ep} e hd=>by
  rw[qY (λhb=>by rw[ux b hb]at e;cases e;cases hd)];cases q:cS K s₁.heap A b with|none=>rfl|some u=>
   obtain⟨c,vs,e2,_⟩:=isSeq q;rw[e2]at e;cases e;cases hd
 have nK:∀b o,K.lookup b=some o->jH tabs (cS K s₁.heap A) b=none:=λb o e=>by
  rw[qY (λhb=>by
   have e2:=KX b o e;rw[ux b hb]at e2;have h2:=YZ.mp C7 (b,o) (PySem.W.mem_of_lookupK e);cases e2;exact absurd (show false=true from h2) X9)]
  cases q:cS K s₁.heap A b with|none=>rfl|some u=>
   rw[(vi ar q).1]at e;cases e
 generalize jH tabs (cS K s₁.heap A)=H at st aJ hS hfree KG nK;have xO:∀ {b:Addr} {o:Obj},s₁.heap.get? b=some o->H b=none->(i5 s₁.heap H).get? b=some o:=λe n=>La e n;have xP:∀ {b:Addr} {m:ZQ},s₁.heap.Ns b m->(i5 s₁.heap H).Ns b m:=λ{b m} ⟨o,es,ep,e,d,r⟩=>#[o,es,ep,xO e (KG e d),d,r]
 have KH:K.In (i5 s₁.heap H):=λb o e=>xO (KX b o e) (nK b o e);have hM:Mod K mg (i5 s₁.heap H):=#[KH,xP hns,#[mb,xP hb,hbb],let⟨mc,h1,h2⟩:=hlim;#[mc,xP h1,h2]]
 have WD:∀q∈tabs,CodeHd (i5 s₁.heap H) q.1 q.2:=λq hq=>by
  obtain⟨o,vs,file,tf,flags,tg,inF,text,tt,e1,c1,d1,r⟩:=(hT q hq).1;exact#[o,vs,file,tf,flags,tg,inF,text,tt,xO e1 (hfree e1 (by rw[c1];intro z;cases z) λvs z=>by rw[d1]at z;cases z),c1,d1,r]
 have WE:ql mg (i5 s₁.heap H):=by
  obtain⟨bm,o,h1,h2,h3,h4,h5,h6,h7⟩:=WA;exact#[bm,o,h1,h2,h3,xO h4 (hfree h4 (by rw[h5];intro z;cases z) λvs z=>by rw[h7]at z;cases z),h5,h6,h7]
 have e0:nj P w K mg (i5 s₁.heap H) callerA [] s₁ H:=#[rfl,hM,λb o e=>Lb e,aab (K_ _ _),trivial,λb hb=>absurd (show b∈([]:List Addr)from hb) (by simp),aJ,.of_eq hg]
 have hl:vals.length=ps.length:=by rw[vd hwl];exact hlen
 refine codeAny_mono ((F _ KH (xP hns) WD WE).run callerA [] s₁ H #[vals,[]] vals (vals.map toV) _ _ hr e0 (hbind s₁ vals hl) hV (hsp H _ st hS)) λr s' x=>?_;cases r with|error e=>exact(C8 H e s' x).elim|ok fl=>
  cases fl with|next=>exact False.elim x|brk=>exact False.elim x|cont=>exact False.elim x|ret u=>
   obtain⟨v,H',os,bare,un,hok',r',q⟩:=x;have kept:∀b o,b∉tabs.map (·.2)->s₁.heap.get? b=some o->s'.heap.get? b=some o:=λb o nb e=>by
    rcases st.only b nb with z|⟨ob,u3,z⟩
    .exact un.keep b o e z (by intro z;exact absurd (show b∈([]:List Addr)from z) (by simp)) (by simp)
    .have z2:=un.iD b ob _ z;obtain⟨e1,_⟩:=aJ b _ z;obtain⟨e2,_⟩:=hok' b _ z2;rw[e]at e1;cases e1;exact e2
   have WG:K.In s'.heap:=λb o e=>kept b o (λhb=>by
    have z:=nK b o e;obtain⟨q,hq,rfl⟩:=Yp.mp hb;rw[st.tab q hq]at z;cases z) (KX b o e)
   obtain⟨as,hrd⟩:=Dw.reads (R:=R) (cl:=cl) hok' WG d0 v u q r';have tabAt:∀b,b∈tabs.map (·.2)->aX λmore c=>s₁.heap.TableAt c b #[]/\s'.heap.get? b=some (PySem.W.tabObj (#[]++more)):=λb hb=>by
    obtain⟨q,hq,rfl⟩:=Yp.mp hb;obtain⟨more,z⟩:=un.iE _ _ (st.tab q hq);exact#[more,q.1,(hT q hq).1.tab (hT q hq).2,hok' _ _ z]
   refine#[u,as,rfl,hrd,#[λb o e=>?_,λb o e=>?_],os,bare]
   .by_cases hb:b∈tabs.map (·.2)
    .obtain⟨more,c,ht,z⟩:=tabAt b hb;have e2:=ht.2;rw[e]at e2;cases e2;exact .inr (.inl #[ht.isCodeTable,rfl,#[],more,rfl,z])
    .exact .inl (kept b o hb e)
   .by_cases hb:b∈tabs.map (·.2)
    .obtain⟨more,c,_,z⟩:=tabAt b hb;exact#[_,z]
    .exact#[o,kept b o hb e]
end L2
namespace QS
open Qm
open PySem PySem.Spec PyProof.Rows L2
open Kyq (Slots Shop Measures Call)
open KyqNeutral (step start asked asked1 may callOf natural)
variable{K:ZX}{c:List (List Int)}{P:Program}{w:World}{mg:ZQ}{base:Heap}
def after(s:KyqNeutral.S):List (List (List Int))->KyqNeutral.S
 |[]=>s
 |c::r=>after (step s c).1 r
theorem KI:∀(cs:List (List (List Int))) (s:KyqNeutral.S) (c:List (List Int)),after s (cs++[c])=(step (after s cs) c).1
 |[],s,c=>rfl
 |d::r,s,c=>KI r (step s d).1 c
theorem C9:∀(cs:List (List (List Int))) (s:KyqNeutral.S) (c:List (List Int)),PyFlat.played step s (cs++[c])=PyFlat.played step s cs++[(step (after s cs) c).2]
 |[],s,c=>rfl
 |d::r,s,c=>by
  show(step s d).2::PyFlat.played step (step s d).1 (r++[c])=(step s d).2::PyFlat.played step (step s d).1 r++[(step (after (step s d).1 r) c).2];rw[C9 r (step s d).1 c];rfl
theorem KJ:∀(cs:List (List (List Int))) (s:KyqNeutral.S) (c:List (List Int)) (r:List (List (List Int))),may s (cs++c::r)=true->(step (after s cs) c).2≠[]
 |[],s,c,r,h=>by
  have h:(!((step s c).2.isEmpty)&&may (step s c).1 r)=true:=h;intro z;rw[show(step s c).2=[]from z]at h;cases h
 |d::cs,s,c,r,h=>by
  have h:(!((step s d).2.isEmpty)&&may (step s d).1 (cs++c::r))=true:=h;rw[Ya]at h;exact KJ cs (step s d).1 c r h.2
theorem xQ:∀(a b:List (List (List Int))),PyFlat.put (a++b)=PyFlat.put a++PyFlat.put b
 |[],b=>rfl
 |c::a,b=>by
  show PyFlat.put1 c++PyFlat.put (a++b)=PyFlat.put1 c++PyFlat.put a++PyFlat.put b;rw[xQ a b,Yw]
def KL(l:List (List Int))(a:List Int):PyFlat.told (l++[a])=PyFlat.told l++((a.length:Nat):Int)::a:=by
 unfold PyFlat.told;rw[Zw];simp
theorem WH(ns:List Int){i j:Nat}(h1:i<=j)(h2:j<=ns.length):eS (ns.map V.int) (some (i:Nat)) (some (j:Nat))=((ns.drop i).take (j-i)).map V.int:=by
 have e1:HT.bz ns.length 0 (some ((i:Nat):Int))=i:=by rw[HT.nr];lia
 have e2:HT.bz ns.length ns.length (some ((j:Nat):Int))=j:=by rw[HT.nr];lia
 unfold eS;rw[XX,e1,e2,<-aaJ,<-aaK]
def KN(K:ZX)(H:Hp)(a:Addr)(xs:List V):Prop:=∀H',Fr H H'->af K H' a xs
def WI{tabs:List (Addr×Addr)}{H:Hp}{a:Addr}{xs:List V}(st:xM tabs H)(h:af K H a xs):KN K H a xs:=λH' fz=>by
 rcases h with(h|⟨o,h⟩)|h
 .by_cases hb:a∈tabs.map (·.2)
  .obtain⟨q,hq,rfl⟩:=Yp.mp hb;rw[st.tab q hq]at h;cases h
  .rcases st.only a hb with z|⟨_,_,z⟩
   .rw[z]at h;cases h
   .rw[z]at h;cases h
 .exact .inl (.inr #[o,fz _ _ _ h])
 .exact .inr h
def oT:Shop:=Kyq.begun #[0,0,0]
theorem mZ{z:Int}{k:Nat}(h:natural z k=true):∃n:Nat,z=(n:Nat):=by
 unfold KyqNeutral.natural at h;rw[Ya,Yx]at h;exact#[z.toNat,by lia]
theorem KO:∀ {l:List Int} {k:Nat},l.all (λz=>natural z k)=true->∃t:List Nat,l=t.map λn=>((n:Nat):Int)
 |[],_,_=>#[[],rfl]
 |z::l,k,h=>by
  rw[Z6,Ya]at h;obtain⟨n,rfl⟩:=mZ h.1;obtain⟨t,rfl⟩:=KO h.2;exact#[n::t,rfl]
def WJ(k:Nat)(t:List Nat):callOf [[1,(k:Int)],t.map λn=>((n:Nat):Int)]=some (.put k t):=by
 show some (Kyq.Call.put (k:Int).toNat (KyqNeutral.natsOf _))=_;unfold KyqNeutral.natsOf;rw[Y1,show(Int.toNat ∘ λn=>((n:Nat):Int))=id from funext λn=>rfl,List.map_id];rfl
def C_{α:Type}{l:List α}(h:l.length=1):∃x,l=[x]:=match l,h with
 |[x],_=>#[x,rfl]
def WK{α:Type}{l:List α}(h:l.length=2):aX λx y=>l=[x,y]:=match l,h with
 |[x,y],_=>#[x,y,rfl]
def WL{α:Type}{l:List α}(h:l.length=3):c8 λx y z=>l=[x,y,z]:=match l,h with
 |[x,y,z],_=>#[x,y,z,rfl]
theorem WM(ok:PyFlat.okCall PyKyq.shape c)(h:asked1 c=true):∃d,callOf c=some d/\PyFlat.put1 c=enc d:=by
 obtain⟨p,a,xs,rfl,sp⟩:=ok;obtain⟨p0,WN,p1,pn,wn⟩:=vQ sp;obtain⟨k,rfl⟩:∃k:Nat,p=(k:Nat):=#[p.toNat,by lia]
 rw[Yd]at wn;by_cases k1:k=1
 .subst k1;obtain⟨e1,e2⟩:=p1 rfl;obtain⟨x,rfl⟩:=C_ e1;obtain⟨t,rfl⟩:=C_ e2;have h:(natural x 32&&(t.all (λz=>natural z 8)&&decide (t.length<=300)))=true:=h;rw[Ya,Ya]at h;obtain⟨n,rfl⟩:=mZ h.1;obtain⟨l,rfl⟩:=KO h.2.1;refine#[.put n l,WJ n l,?_];show[1,((n:Nat):Int)]++((((l.map λn=>((n:Nat):Int)).length:Nat):Int)::(l.map λn=>((n:Nat):Int))++[])=_;rw[YC,XX];rfl
 have ex:xs=[]:=YG.mp (pn λz=>k1 (by lia));subst ex;rcases GL k (by lia)with rfl|rfl|rfl|rfl|rfl|rfl|rfl|rfl|rfl|rfl|rfl|rfl|rfl|rfl|rfl|rfl|rfl|rfl|rfl|rfl|rfl|rfl|rfl|rfl|rfl|rfl
 all_goals first
  |exact absurd rfl k1
  |(have e:a=[]:=YG.mp (XW wn).symm;subst e;exact⟨_,rfl,rfl⟩)
  |(obtain⟨x,rfl⟩:=C_ (XW wn).symm;obtain⟨n,rfl⟩:=mZ (z:=x) (k:=32) h;exact⟨_,rfl,rfl⟩)
  |(obtain⟨x,y,rfl⟩:=WK (XW wn).symm;have h:(natural x 32&&natural y 32)=true:=h;rw[Ya]at h;obtain⟨n,rfl⟩:=mZ h.1;obtain⟨m,rfl⟩:=mZ h.2;exact⟨_,rfl,rfl⟩)
  |(obtain⟨x,y,z,rfl⟩:=WL (XW wn).symm;have h:(natural x 32&&(natural y 32&&natural z 32))=true:=h;rw[Ya,Ya]at h;obtain⟨n,rfl⟩:=mZ h.1;obtain⟨m,rfl⟩:=mZ h.2.1;obtain⟨l,rfl⟩:=mZ h.2.2;exact⟨_,rfl,rfl⟩)
def WO(q:Shop)(d:Call):aX λq' a=>Kyq.acts (some q) d=some (some q',a):=by
 cases d<;>simp only[Kyq.acts,Zo]<;>(repeat' split)<;>exact#[_,_,rfl]
def WQ{s:KyqNeutral.S}{d:Call}(hc:callOf c=some d)(ne:(step s c).2≠[]):(step s c).1.getD oT=(act (s.getD oT) d).1/\(step s c).2=(act (s.getD oT) d).2:=by
 have es:step s c=match Kyq.acts s d with|none=>(s,[])|some (t,a)=>(t,told a):=by
  unfold KyqNeutral.step;rw[hc];rfl
 cases s with
 |some q=>
  obtain⟨q',a,e⟩:=WO q d;rw[es,e];show q'=(act q d).1/\told a=(act q d).2;rw[c7 e];exact#[rfl,rfl]
 |none=>
  cases d with
  |start m=>
   have ea:Kyq.acts none (.start m)=some (if Kyq.okMeasures m=false then(none,Kyq.say (-22))else(some (Kyq.begun m),Kyq.say 0)):=rfl;rw[es,ea];show _=(act oT _).1/\_=(act oT _).2;rw[CY];by_cases h:Kyq.okMeasures m=false
   .rw[if_pos h,if_pos h,if_pos h];exact#[rfl,rfl]
   .rw[if_neg h,if_neg h,if_neg h];exact#[rfl,rfl]
  |_=>exact absurd (by rw[es];rfl) ne
inductive KP(K:ZX)(vs:List V)(H:Hp)(Q:VK)(E:XK):Prop|mk(a:Addr)(at_:Nat)(ns:List Int)(c:List (List Int))(rest:List Int)(_:vs=[.ref a,.int (at_:Nat)])(_:af K H a (ns.map V.int))(_:ns.drop at_=PyFlat.put1 c++rest)(_:PyFlat.okCall PyKyq.shape c)(_:asked1 c=true)(_:Q (.int ((PyFlat.put1 c).length:Nat)) H)
inductive Dc(K:ZX)(Pt:Addr)(vs:List V)(H:Hp)(Q:VK)(E:XK):Prop|mk(a:Addr)(ns:List Int)(_:vs=[.ref a])(_:KN K H a (ns.map V.int))(_:bJ H)(_:PyKyq.answers_asked ns=true)(_:∀H' r,H' r=some (.lst ((PyKyq.answers ns).map V.int))->Q (.ref r) H')
abbrev Dd:Stmt:=top 142
def KQ:jc ["calls","shop","given","at","behind","answer"] ["calls"] (cR Dd):=#[rfl,rfl,rfl,by decide+kernel,rfl,by decide+kernel,by decide+kernel]
theorem WR{fA:Addr}{fd:FuncData}(T:eZ mg)(D:d_ K "answers" "answers" Dd fA fd)(De:fZ P w K mg base 9 "Workshop" ww.W ["self"] (J3))(Df:aH P w K mg base 1 "call_length" ["calls","at"] (KP K))(Dg:aH P w K mg base 18 "answer_call" ["shop","call"] (Kz)):eR P w K mg base fY 19 fA fd ["calls"] (Dc K pT):=by
 have nd:=KQ.nd;refine D.ok KQ (λvs H Q E h=>?_) (λcdv A outer s H vs Q E hr h=>?_)
 .obtain⟨a,ns,rfl,_⟩:=h;rfl
 obtain⟨a,ns,rfl,la,tb,ask,kq⟩:=h;obtain⟨cs,L⟩:=ve ask;refine#[_,(aC (aR 1 (vm De)) (aC (aR 2 (aV eQ)) (aC (aR 3 aw) (aC (x_ PassesOwn.never (aL gu (pv 3) (bO K T.bP (pv 0))) (aC (aR 4 (aO bS (pv 3) (bh Df (aU (pv 0) (pv 3))))) (aC (aR 5 (dO (bh Dg (aU (pv 1) (l7 (pI K) (pv 0) (gY (pv 3)) (gY (pv 4))))))) (aC (cK (c_ X4 Yk Yl fE (pv 2) (au (bO K T.bP (pv 5))))) (aC (cK (c_ X4 Zt Zu yE (pv 2) (au (pv 5)))) (bF (aR 3 (pv 4)))))))) (ax (pv 2)))))),?_];intro x dx nx ndx jz;refine#[x,dx,rfl,ab,tb.mono (ag.uh nx ndx jz),λH1 sh1 fm=>#[rfl,?_]];have s01:ag H H1:=ag.made nx ndx jz fm;refine#[Yg _,λG hG=>?_];refine yd (λσ H'=>c8 λ(i:Nat) (v4 v5:Option V)=>σ=[some (.ref a),some (.ref x),some (.ref G),some (.int ((PyFlat.put (cs.take i)).length:Nat)),v4,v5]/\i<=cs.length/\Fr H (del H' G)/\dR (del H' G) x ((after start (cs.take i)).getD oT)/\H' G=some (.lst ((PyFlat.told (PyFlat.played step start (cs.take i))).map V.int))/\(PyFlat.told (PyFlat.played step start (cs.take i))).length<=3002*i)
   (λσ _=>match σ with|[_,_,_,some (.int i),_,_]=>ns.length-i.toNat|_=>0) ?_ ?_ (λσ H Q Q' hq ⟨v,e,v2,e2,p,ys,e3,h,i,j,ei,ej,k,ek,q⟩=>#[v,e,v2,e2,p,ys,e3,h,i,j,ei,ej,k,ek,hq _ _ q])
 .refine#[0,none,none,rfl,Yg _,?_,?_,?_,Yg _]
  .rw[cf hG];exact Fr.same s01
  .rw[cf hG];exact sh1
  .rw[aak];exact ab
 .rintro σ H' ⟨i,v4,v5,rfl,hi,fz,sh,hA,hz⟩;have KR:Fr H H':=fz.trans (Fr.same bc);refine#[_,rfl,_,rfl,a,_,rfl,.inl (la _ KR),_,_,rfl,rfl,_,rfl,bV (λh1=>?_) (λh1=>?_)]
  .rw[XX]at h1;have split0:ns=PyFlat.put (cs.take i)++PyFlat.put (cs.drop i):=by rw[<-xQ,Zc];exact L.put
   have hlt:i<cs.length:=by
    apply Z8;intro z;rw[Yv z,<-L.put]at h1
    lia
   obtain⟨c,hc⟩:∃c,cs[i]?=some c:=#[_,XT hlt]
   have ed:cs.drop i=c::cs.drop (i+1):=by
    rw[YU hlt]
    congr 1
    exact(XZ.mp hc).2
   have et:cs.take (i+1)=cs.take i++[c]:=take_snoc hc;have cm:c∈cs:=X_ hc;have dr:ns.drop (PyFlat.put (cs.take i)).length=PyFlat.put1 c++PyFlat.put (cs.drop (i+1)):=by
    have e9:ns.drop (PyFlat.put (cs.take i)).length=PyFlat.put (cs.drop i):=by
     conv=>lhs;rw[split0]
     exact List.drop_left
    rw[e9,ed];rfl
   have lp:(PyFlat.put (cs.take (i+1))).length=(PyFlat.put (cs.take i)).length+(PyFlat.put1 c).length:=by
    rw[et,xQ,XY];show _+(PyFlat.put1 c++[]).length=_;rw[YC]
   have lens:(PyFlat.put (cs.take i)).length+(PyFlat.put1 c).length<=ns.length:=by
    have e9:=congrArg List.length dr;rw[YN,XY]at e9
    lia
   refine#[_,rfl,_,rfl,_,rfl,a,(PyFlat.put (cs.take i)).length,ns,c,_,rfl,la _ KR,dr,L.ok c cm,L.one c cm,_,_,rfl,rfl,?_];have eb:((PyFlat.put (cs.take i)).length:Int)+((PyFlat.put1 c).length:Nat)=(((PyFlat.put (cs.take i)).length+(PyFlat.put1 c).length:Nat):Int):=by lia
   refine#[G,_,hA,_,rfl,_,rfl,_,rfl,_,rfl,_,rfl,_,rfl,a,_,rfl,la _ fz,λb hb=>?_];rw[eb,WH ns (by lia) lens,dr,aaD,PyFlat.take_len];have sb:=ai (o:=HO.lst ((PyFlat.put1 c).map V.int)) hb;have mq:may start (cs.take i++c::cs.drop (i+1))=true:=by
    rw[<-ed,Zc];exact L.may
   obtain⟨dc,hdc,WS⟩:=WM (L.ok c cm) (L.one c cm);obtain⟨a1,a2⟩:=WQ hdc (KJ _ _ _ _ mq);have XQ:(step (after start (cs.take i)) c).2.length<=3001:=by rw[a2];exact Ww sh dc
   refine#[x,b,(after start (cs.take i)).getD oT,dc,_,rfl,by rw[WS],hb,sh,λH2 r fT WT hr2 Dh=>?_];rw[<-a1]at fT;rw[<-a2]at hr2;have rG:r≠G:=λz=>by rw[z,Dh]at hr2;cases hr2
   have ha1:∀xs,upd H2 G (.lst xs) r=some (.lst ((step (after start (cs.take i)) c).2.map V.int)):=λxs=>by rw[ae rG];exact hr2
   have XR:i+1<=300:=X8 hlt L.len;have big:(PyFlat.told (PyFlat.played step start (cs.take i))).length<=900600:=by lia
   have line:1000000<=sizeLine:=by decide
   refine#[_,rfl,.inl #[rfl,_,af.of ab],_,rfl,r,_,rfl,.inl (af.of (ha1 _)),G,_,_,rfl,rfl,ab,by rw[XX];lia,?_];rw[L2.d7];refine#[_,rfl,.inl #[rfl,_,af.of ab],_,rfl,G,r,_,_,rfl,rfl,ab,ha1 _,by rw[XY,XX,XX,YE];lia,?_];rw[L2.d7];refine#[_,rfl,#[i+1,some (.int (((PyFlat.put (cs.take i)).length:Int)+((PyFlat.put1 c).length:Nat))),some (.ref r),?_,hlt,?_,?_,?_,?_],?_]
   .rw[lp,<-eb];rfl
   .rw[cf Dh];exact(fz.trans (Fr.same sb)).trans WT
   .rw[cf Dh,et,KI];exact fT
   .rw[ab,et,C9,KL];simp
   .rw[et,C9,KL,XY,X2]
    lia
   .show ns.length-(((PyFlat.put (cs.take i)).length:Int)+((PyFlat.put1 c).length:Nat)).toNat<ns.length-(((PyFlat.put (cs.take i)).length:Nat):Int).toNat;have pos:0<(PyFlat.put1 c).length:=by
     obtain⟨pp,aa,xs,rfl,_⟩:=L.ok c cm;exact Zv _
    lia
  .rw[XX]at h1;have split0:ns=PyFlat.put (cs.take i)++PyFlat.put (cs.drop i):=by rw[<-xQ,Zc];exact L.put
   have hge:cs.length<=i:=by
    apply Nat.le_of_not_lt;intro z;have ed:cs.drop i=cs[i]::cs.drop (i+1):=YU z;have e9:=congrArg List.length split0;rw[ed,XY]at e9;have e10:(PyFlat.put (cs[i]::cs.drop (i+1))).length=(PyFlat.put1 cs[i]).length+(PyFlat.put (cs.drop (i+1))).length:=by
     show(PyFlat.put1 _++PyFlat.put _).length=_;rw[XY]
    have pos:0<(PyFlat.put1 cs[i]).length:=by
     obtain⟨pp,aa,xs,WU,_⟩:=L.ok cs[i] (Ys z);rw[WU];exact Zv _
    lia
   rw[Yv hge]at hA;refine#[_,rfl,kq _ _ ?_];rw[hA,L.Qv]
section
variable{aW:Addr}{wn:List Nat}
theorem WV(gW:mg "WHOLE_NUMBERS"=some (.ref aW))(tW:∀H,aI K H aW (wn.map λn=>V.int (n:Nat)))(hW:∀(p:Int) (n k:Nat),PyKyq.shape p=some (n,k)->wn[p.toNat]?=some n)(gP:a8 mg "PUT" 1)(D:bx K mg "call_length" (top 141) ["calls","at"]):aH P w K mg base 1 "call_length" ["calls","at"] (KP K):=by
 refine D.go ["calls","at","length"] λnd H vs Q E hr h=>?_;obtain⟨a,i,ns,c,rest,rfl,hs,dr,⟨p,ar,xs,rfl,sp⟩,ask,q⟩:=h;obtain⟨p0,WN,p1,pn,_⟩:=vQ sp;have wp:=hW _ _ _ sp;refine#[_,(aC (aR 2 (aO bS aw (bE K (mh rfl gW) (a0 K (pv 0) (pv 1))))) (aM (aL bL (a0 K (pv 0) (pv 1)) (aE gP)) (bF (aR 2 (aO bS (aO bS (pv 2) aw) (a0 K (pv 0) (aO bS (pv 1) (pv 2)))))) (ax (pv 2)))),?_];have KS:ns.drop i=p::(ar++PyFlat.putRows xs++rest):=by rw[dr];rfl
 have jl:(ns.map V.int)[i]?=some (.int p):=by
  rw[X1];have e:=congrArg (·[0]?) KS;simp only[Zn,ZG,List.getElem?_cons_zero]at e;rw[e];rfl
 have wp':(wn.map λn=>V.int (n:Nat))[p.toNat]?=some (.int (ar.length:Nat)):=by rw[X1,wp];rfl
 refine#[_,rfl,_,rfl,a,_,_,_,rfl,rfl,hs,cB jl,aW,_,p,_,rfl,rfl,tW H,at_of (j:=p.toNat) (by lia) wp',_,_,rfl,rfl,?_];refine#[_,rfl,_,rfl,a,_,_,_,rfl,rfl,hs,cB jl,rfl,_,rfl,bV (λh=>?_) (λh=>?_)]
 .injection h with h;obtain⟨e1,e2⟩:=p1 h;obtain⟨t,rfl⟩:∃t,xs=[t]:=by
   match xs,e2 with
   |[t],_=>exact#[t,rfl]
  have at2:(ns.map V.int)[i+(1+ar.length)]?=some (.int ((t.length:Nat):Int)):=by
   rw[X1];have e:=congrArg (·[1+ar.length]?) KS;simp only[Zn]at e;rw[e,aaw 1,ZV,Yw,YH (X0 _),Nat.sub_self];rfl
  refine#[_,rfl,_,_,rfl,rfl,_,rfl,_,rfl,_,rfl,_,_,rfl,rfl,a,_,_,_,rfl,rfl,hs,at_of (j:=i+(1+ar.length)) (by lia) at2,_,_,rfl,rfl,_,rfl,?_];have el:(PyFlat.put1 ((p::ar)::[t])).length=1+ar.length+1+t.length:=by
   show((p::ar)++(PyFlat.putRow t++[])).length=_;rw[YC,XY,X2];show ar.length+1+(t.length+1)=_
   lia
  rw[el]at q;show Q (.int (1+((ar.length:Nat):Int)+1+((t.length:Nat):Int))) H;rw[show 1+((ar.length:Nat):Int)+1+((t.length:Nat):Int)=((1+ar.length+1+t.length:Nat):Int) by lia];exact q
 .have e2:=pn λz=>h (by rw[z]);have ex:xs=[]:=YG.mp e2;subst ex;refine#[_,rfl,?_];have el:(PyFlat.put1 ((p::ar)::[])).length=1+ar.length:=by
   show((p::ar)++[]).length=_;rw[YC,X2]
   lia
  rw[el]at q;show Q (.int (1+((ar.length:Nat):Int))) H;rw[show 1+((ar.length:Nat):Int)=((1+ar.length:Nat):Int) by lia];exact q
end
end QS
namespace L2
open PySem PySem.Spec PyProof.Rows
open PySem.W (WData Codec OpenSpec Well WellAll ReadsW ReadsAllW CodeHd TabsAt)
variable{loose ps:List Str}{mg:ZQ}{h:Heap}{od:Option Addr}{kvs:List (Key×V)}{es:List DictEntry}{ep:Nat}
def WW{p:Program}{mean:ExcName->Option Value}{mb:ZQ}(T:Top p loose mean mg mb h):ql mg h:=by
 obtain⟨bm,ob,h1,h2,h3,h4,h5,h6⟩:=T.bmain;refine#[bm,ob,h1,h2,λz=>?_,h3,h4,h5,h6];obtain⟨o,es,ep,e,d,_⟩:=T.g;rw[z,e]at h3;cases h3;rw[d]at h6;cases h6
def WX{r:OpenSpec}{k:Nat}{q:Program}{XP:ZQ->Heap->Prop}{YP:World->Heap->Prop}{d:DefRec}{K:Params->PySem.W.Frag}{CX:lU}{sp:World->Sp}{tabs:World->List (Addr×Addr)}
  (WY:r.wellSaid=true) (hlen:r.args.length=ps.length) (hr:bR k callerA)
  (hY:∀(w:World) (h:Heap),YP w h->(K w.params).In h) (C7:∀w:World,PySem.W.noTabs (K w.params)=true)
  (WZ:∀(w:World) (lo:List Str) (mean:ExcName->Option Value) (mg mb:ZQ) (h:Heap),Top q lo mean mg mb h->(K w.params).In h->TabsAt (tabs w) h)
  (F:∀(w:World) (mg:ZQ) (fa:Addr) (h:Heap),YP w h->(K w.params).In h->h.Ns mainGlobals mg->mg d.name=some (.ref fa)->
   ∃fd:FuncData,(∀(s:Shared) (us:List Value),us.length=ps.length->BindsTo s fd #[us,[]] (ps.zip us))/\
    ∀base:Heap,(K w.params).In base->base.Ns mainGlobals mg->(∀q∈tabs w,CodeHd base q.1 q.2)->ql mg base->eR r.prog w (K w.params) mg base CX k fa fd ps (sp w))
  (hsp:∀(w:World) (H:Hp) (xs:List V) (a:Codec.denoteAll r.args),xM (tabs w) H->Codec.withinAll r.args a=true->Codec.app r.args r.asked a=true->g9 (K w.params) H xs (Codec.encAll r.args a)->
   sp w xs H (λv H'=>Dw (K w.params) H' v (r.ret.enc (Codec.app r.args r.f a))) λ_ _ _=>False)
  (C8:∀(H:Hp) (s:Shared) (e:Value) (s':Shared),CX [] H s (λ_ _ _=>False) e s'->False):
  PySem.W.WalkOS q loose XP YP r d [] (λf vs=>PySem.call f vs):=by
 intro w dm s₁ mg mb G Y fa o pm cd doc dV kV ho hd hcd hD hmg hg args vals as hpre hlay hrd hwl hlo;obtain⟨a,e1,e2⟩:=PySem.W.os_pre_some hpre;obtain⟨e3,hwi⟩:=Codec.encAll_of_decAll r.args args a e1;subst e3;have KX:=hY w _ Y;obtain⟨fd,hb,hF⟩:=F w mg fa _ Y KX G.T.g hmg;refine PySem.W.enter_call (codeAny_mono (Wz (R:=[]) (cl:=classAt dm.heap) (d0:=r.ret.enc (Codec.app r.args r.f a)) KX G.T.g G.T.b G.T.builtins G.T.nolimit hg (WZ w _ _ mg mb _ G.T KX) (C7 w) (WW G.T) hwl (EX _ _) (Oo hlay) hr hF hb (by rw[E6];exact hlen)
  (λH xs hO hS=>hsp w H xs a hO hwi e2 hS) λH e s'=>C8 H s₁ e s') λr' s' hq=>?_)
 obtain⟨u,as',rfl,h1,h2,h3,h4⟩:=hq;exact#[.inl #[u,_,as',rfl,λ_=>rfl,h1,(OpenSpec.post_iff WY hwi _ _).mpr rfl,λz=>Bool.noConfusion (show false=true from z)],h2,h3,h4]
section
variable{P:Program}{w:World}{K:ZX}{x m qual:Str}{st:Stmt}{f C a:Addr}{an:Option Addr}{sl:Array (Option Value)}{oc kV doc pm cdv ct:Value}
abbrev gN(x qual:Str)(st:Stmt)(kV doc pm:Value)(an:Option Addr)(cdv ct:Value):FuncData:=PySem.W.fnOf x qual (rT st) (iM st) (cR st) .none kV doc pm an cdv ct
def W0(X:K.In h)(G:h.Ns mainGlobals mg)(a:PySem.W.nsIn K mainGlobals x=some (some (.ref f)))(l:K.lookup f=some #[oc,od,.func (gN x x st kV doc pm an cdv ct),sl])(c:PySem.W.codeIn K cdv x=true)(k:PySem.W.keepIn K (.ref f)=true)
  (b:∀(kV doc pm:Value) (an:Option Addr) (cdv ct:Value) (us:List Value),us.length=ps.length->bindArgs (gN x x st kV doc pm an cdv ct) #[us,[]]=pure (ps.zip us)):bx K mg x st ps:=
 #[f,_,md l c k,PySem.W.mg_of X G a,(md l c k).binds b]
def W2{base:Heap}{c0:Addr}(X:K.In h)(G:h.Ns mainGlobals mg)(ht:PySem.W.tabIn K x=some (c0,pT))(hc:PySem.W.CodeHd base c0 pT)(a:PySem.W.nsIn K mainGlobals x=some (some (.ref f)))(l:K.lookup f=some #[oc,od,.func (gN x x st kV doc pm an cdv ct),sl])(c:PySem.W.codeIn K cdv x=true)(k:PySem.W.keepIn K (.ref f)=true)
  (b:∀(kV doc pm:Value) (an:Option Addr) (cdv ct:Value) (us:List Value),us.length=ps.length->bindArgs (gN x x st kV doc pm an cdv ct) #[us,[]]=pure (ps.zip us)):wU K mg base x st ps pT:=by
 refine#[f,_,md l c k,PySem.W.mg_of X G a,(md l c k).binds b,c0,?_,hc];unfold PySem.W.tabIn at ht;rw[a]at ht;dsimp only at ht;rw[l]at ht;dsimp only at ht;show cdv=.ref c0;split at ht
 .split at ht
  .split at ht
   .cases ht;rfl
   .cases ht
  .cases ht
 .cases ht
def W3(a:PySem.W.findIn K (.ref C) m=some (some (.ref f)))(i:PySem.W.isFn K (.ref f)=true)(l:K.lookup f=some #[oc,od,.func (gN m qual st kV doc pm an cdv ct),sl])(c:PySem.W.codeIn K cdv qual=true)(k:PySem.W.keepIn K (.ref f)=true)
  (b:∀(kV doc pm:Value) (an:Option Addr) (cdv ct:Value) (us:List Value),us.length=ps.length->bindArgs (gN m qual st kV doc pm an cdv ct) #[us,[]]=pure (ps.zip us)):bI K C m qual st ps:=
 #[f,_,md l c k,#[a,i,k],(md l c k).binds b]
def W4(mk:PySem.W.makesIn K C=true)(kc:PySem.W.keepIn K (.ref C)=true)(a:PySem.W.findIn K (.ref C) "__init__"=some (some (.ref f)))(i:PySem.W.isFn K (.ref f)=true)(l:K.lookup f=some #[oc,od,.func (gN "__init__" qual st kV doc pm an cdv ct),sl])(c:PySem.W.codeIn K cdv qual=true)(k:PySem.W.keepIn K (.ref f)=true)
  (b:∀(kV doc pm:Value) (an:Option Addr) (cdv ct:Value) (us:List Value),us.length=ps.length->bindArgs (gN "__init__" qual st kV doc pm an cdv ct) #[us,[]]=pure (ps.zip us)):aX λf fd=>d_ K "__init__" qual st f fd/\Mk K C f/\Binds K fd ps []:=
 #[f,_,md l c k,#[mk,a,i,kc],(md l c k).binds b]
def W5{i:Int}{t:Tok}(X:K.In h)(G:h.Ns mainGlobals mg)(a:PySem.W.nsIn K mainGlobals x=some (some (.int i t))):a8 mg x i:=#[t,PySem.W.mg_of X G a]
def xR(w:World):List (Key×V)->List DictEntry->Prop:=Paired λ(p:Key×V) (e:DictEntry)=>m4 p.1 e.key=true/\e.hash=Dl w p.1/\RelV p.2 e.val
theorem KU:∀ {kvs:List (Key×V)} {es:List DictEntry},xR w kvs es->∃vs,Pairs (d5 P w) es vs/\KV kvs vs/\vs.map (·.1)=kvs.map (·.1)
 |_,_,.nil=>#[[],.nil,.nil,rfl]
 |_,_,.cons (a:=p) (b:=e) r t=>by
  obtain⟨vs,h1,h2,h3⟩:=KU t;exact#[(p.1,e.val)::vs,.cons r.1 rfl h1,.cons #[rfl,r.2.2] h2,by rw[X7,X7,h3]]
def W6(h:xR w kvs es):KeysOf (d5 P w) es.toArray:=by
 intro e he;have he:e∈es:=by simpa using he
 obtain⟨i,hi,q⟩:=Y8 he;obtain⟨p,_,r⟩:=Paired.get h (XT hi);rw[q]at r;exact#[p.1,r.1,r.2.1]
def W7(hs:(a==sysModules)=false)(l:K.lookup a=some #[.type "dict",od,.dict es.toArray ep,sl])(hx:Obj.ExactDict #[.type "dict",od,.dict es.toArray ep,sl])(e:xR w kvs es)(nd:(kvs.map (·.1)).Nodup):jQ P w K a kvs:=by
 obtain⟨vs,h1,h2,h3⟩:=KU (P:=P) e;exact#[hs,_,_,_,vs,l,hx,rfl,W6 e,by simpa using h1,by rw[h3];exact nd,h2]
def xT(X:K.In h)(G:h.Ns mainGlobals mg)(m:PySem.W.nsIn K mainGlobals x=some (some (.ref a)))(l:K.lookup a=some #[.type "dict",od,.dict es.toArray ep,sl])(hs:(a==sysModules)=false)(hx:Obj.ExactDict #[.type "dict",od,.dict es.toArray ep,sl])(e:xR w kvs es)(nd:(kvs.map (·.1)).Nodup):∃a,mg x=some (.ref a)/\jQ P w K a kvs:=
 #[a,PySem.W.mg_of X G m,W7 hs l hx e nd]
def W8(X:K.In h)(G:h.Ns mainGlobals mg)(a:PySem.W.nsIn K mainGlobals x=some none):mg x=none:=PySem.W.mg_none_of X G a
end
end L2
namespace L2
open PySem PySem.Spec PyProof.Rows
section
variable{K:ZX}{mg:ZQ}{h:Heap}{x m qual:Str}{st:Stmt}{ps:List Str}{f C:Addr}{od an:Option Addr}{sl:Array (Option Value)}{oc kV doc pm cdv ct:Value}
def dI(X:K.In h:=by assumption)(G:h.Ns mainGlobals mg:=by assumption)(a:PySem.W.nsIn K mainGlobals x=some (some (.ref f)):=by k_is)(l:K.lookup f=some #[oc,od,.func (gN x x st kV doc pm an cdv ct),sl]:=by k_is)(c:PySem.W.codeIn K cdv x=true:=by k_is)(k:PySem.W.keepIn K (.ref f)=true:=by k_is)
  (b:∀(kV doc pm:Value) (an:Option Addr) (cdv ct:Value) (us:List Value),us.length=ps.length->bindArgs (gN x x st kV doc pm an cdv ct) #[us,[]]=pure (ps.zip us):=by intro _ _ _ _ _ _ us hl;rcases us with _|⟨_,_|⟨_,_|⟨_,_|⟨_,_|⟨_,_|⟨_,_⟩⟩⟩⟩⟩⟩<;>first|rfl|(simp at hl)):bx K mg x st ps:=W0 X G a l c k b
def mI(a:PySem.W.findIn K (.ref C) m=some (some (.ref f)):=by k_is)(i:PySem.W.isFn K (.ref f)=true:=by k_is)(l:K.lookup f=some #[oc,od,.func (gN m qual st kV doc pm an cdv ct),sl]:=by k_is)(c:PySem.W.codeIn K cdv qual=true:=by k_is)(k:PySem.W.keepIn K (.ref f)=true:=by k_is)
  (b:∀(kV doc pm:Value) (an:Option Addr) (cdv ct:Value) (us:List Value),us.length=ps.length->bindArgs (gN m qual st kV doc pm an cdv ct) #[us,[]]=pure (ps.zip us):=by intro _ _ _ _ _ _ us hl;rcases us with _|⟨_,_|⟨_,_|⟨_,_|⟨_,_|⟨_,_|⟨_,_⟩⟩⟩⟩⟩⟩<;>first|rfl|(simp at hl)):bI K C m qual st ps:=W3 a i l c k b
def kI(mk:PySem.W.makesIn K C=true:=by k_is)(kc:PySem.W.keepIn K (.ref C)=true:=by k_is)(a:PySem.W.findIn K (.ref C) "__init__"=some (some (.ref f)):=by k_is)(i:PySem.W.isFn K (.ref f)=true:=by k_is)(l:K.lookup f=some #[oc,od,.func (gN "__init__" qual st kV doc pm an cdv ct),sl]:=by k_is)(c:PySem.W.codeIn K cdv qual=true:=by k_is)(k:PySem.W.keepIn K (.ref f)=true:=by k_is)
  (b:∀(kV doc pm:Value) (an:Option Addr) (cdv ct:Value) (us:List Value),us.length=ps.length->bindArgs (gN "__init__" qual st kV doc pm an cdv ct) #[us,[]]=pure (ps.zip us):=by intro _ _ _ _ _ _ us hl;rcases us with _|⟨_,_|⟨_,_|⟨_,_|⟨_,_|⟨_,_|⟨_,_⟩⟩⟩⟩⟩⟩<;>first|rfl|(simp at hl)):aX λf fd=>d_ K "__init__" qual st f fd/\Mk K C f/\Binds K fd ps []:=W4 mk kc a i l c k b
def gi{i:Int}{t:Tok}(X:K.In h:=by assumption)(G:h.Ns mainGlobals mg:=by assumption)(a:PySem.W.nsIn K mainGlobals x=some (some (.int i t)):=by k_is):a8 mg x i:=W5 X G a
def mG{v:Value}(X:K.In h:=by assumption)(G:h.Ns mainGlobals mg:=by assumption)(a:PySem.W.nsIn K mainGlobals x=some (some v):=by k_is):mg x=some v:=PySem.W.mg_of X G a
def gn(X:K.In h:=by assumption)(G:h.Ns mainGlobals mg:=by assumption)(a:PySem.W.nsIn K mainGlobals x=some none:=by k_is):mg x=none:=W8 X G a
def cI(X:K.In h:=by assumption)(a:PySem.W.plainGet K C Str.empty=true:=by k_is)(b:PySem.W.hasDictIn K C=true:=by k_is)(c:PySem.W.plainOver K C=true:=by k_is)(d:PySem.W.findIn K (.ref C) "__setattr__"=some (some (.builtin "object.__setattr__")):=by k_is):d9 K C:=#[a,b,c,d]
def nA(a:PySem.W.findIn K (.ref C) x=some none:=by k_is):du K C x:=a
end
end L2
namespace QS
open Qm
noncomputable def wholes:List Nat:=[3,1,1,0,0,1,1,1,1,1,1,2,1,1,1,2,1,0,0,1,0,1,0,0,0,0]
def W9:∀(p:Int) (n k:Nat),PyKyq.shape p=some (n,k)->wholes[p.toNat]?=some n:=λp n k h=>(vQ h).2.2.2.2
def KW{α:Type}{o:Option α}(h:o.isSome=true)(d:α):o=some (o.getD d):=by
 cases o with|none=>cases h|some x=>rfl
abbrev PG:=PySem.Challenge.rw_quiltshop_s01_answers.prog
end QS
open PySem PySem.W PyProof.Rows
open L2 hiding start
open QS Qm
set_option maxHeartbeats 0 in
theorem PySem.Challenge.cw_quiltshop_s01_answers_holds : PySem.Challenge.rw_quiltshop_s01_answers.Holds := by
 refine hd ?_
 k_fillS
 refine WX (r:=PySem.Challenge.rw_quiltshop_s01_answers) (k:=19) (CX:=fY) (ps:=["calls"]) (sp:=?sp) (tabs:=?tabs) (by decide+kernel) rfl #[rfl,by decide,by decide] (λw h Y=>PySem.W.kIn_of Y) ?NT ?TT ?F ?S (λ_ _ _ _ z=>z)
 case tabs=>exact λw=>(PySem.W.tabIn (hd.heap_1 w.params) "draw_names").toList
 case sp=>exact λw=>Dc (hd.heap_1 w.params) ((PySem.W.tabIn (hd.heap_1 w.params) "draw_names").getD (0,0)).2
 case NT=>
  intro w
  kernel_rfl
 case TT=>
  intro w lo mean mg mb h T KX q hq;have e:=aar.mp hq;exact PySem.W.tab_of T KX rfl e
 case F=>
  intro w mg fa h Y KX G hmg;have hs:(PySem.W.tabIn (hd.heap_1 w.params) "draw_names").isSome=true:=by kernel_rfl
  have ht:=KW hs (0,0);obtain⟨aT,v_,wc⟩:=xT (P:=PG) (w:=w) (x:="TIMES_SIGNS") (kvs:=nY) KX G (by k_is) (by k_is) (by decide) #[rfl,rfl,rfl] (by repeat (first|exact .nil|refine .cons #[rfl,rfl,#[_,rfl]] ?_)) (by decide+kernel)
  obtain⟨aP,wg,wj⟩:=xT (P:=PG) (w:=w) (x:="PLAIN_SIGNS") (kvs:=nZ) KX G (by k_is) (by k_is) (by decide) #[rfl,rfl,rfl] (by repeat (first|exact .nil|refine .cons #[rfl,rfl,#[_,rfl]] ?_)) (by decide+kernel)
  obtain⟨aG,wm,wq⟩:=xT (P:=PG) (w:=w) (x:="PARTING_SIGNS") (kvs:=n8) KX G (by k_is) (by k_is) (by decide) #[rfl,rfl,rfl] (by repeat (first|exact .nil|refine .cons #[rfl,rfl,#[_,rfl]] ?_)) (by decide+kernel)
  obtain⟨aB,Ai,Aj⟩:=xT (P:=PG) (w:=w) (x:="BLOCKS_BEHIND") (kvs:=ju) KX G (by k_is) (by k_is) (by decide) #[rfl,rfl,rfl] (by repeat (first|exact .nil|refine .cons #[rfl,rfl,#[_,rfl]] ?_)) (by decide+kernel)
  have tW:∀H,aI (hd.heap_1 w.params) H 658 (wholes.map λn=>V.int (n:Nat)):=λH=>.inr #[_,_,_,(by k_is),rfl,rfl,(by decide),(by repeat (first|exact .nil|refine .cons #[_,rfl] ?_))];have fu:Glob mg:=#[gn,gn,gn,gn,gi]
  have iC:gH mg:=#[fu,gn,gi,gi,gi,gi,gi,gi,gi]
  have qZ:oG mg:=#[iC,gn,gn,gn]
  have lS:j2 mg:=#[fu,gn,gn,gn,gi]
  have fv:eZ mg:=#[lS,gi,gi,gi,gi,gi,gi,gi,gi,gi]
  have oU:mT mg:=#[qZ,gn,gi,gi,gi,gi,gi]
  have kC:jE mg:=#[oU,gi,gi,gi,gi,gi,gi,gi,gi]
  have q_:oR mg:=#[gi,gi,gi,gi,gi,gi,gi,gi,gi,gi,gi,gi,gi,gi,gi,gi,gi,gi,gi,gi,gi,gi,gi,gi,gi]
  have uy:p_ PG w _ mg _ _ _ _:=#[fu,gi,gi,gi,gi,gi,gi,gi,gi,v_,wc,wg,wj,wm,wq,Ai,Aj]
  have rb:oI mg:=#[fu,gn,gn,gi,gi,gi,gi,gi]
  have eO:dW _ kk.N:=#[cI,nA,nA,nA,nA]
  have oV:mP _ kk.P:=#[cI,nA,nA,nA]
  have oW:mQ _ ww.Z:=#[cI,nA,nA,nA]
  have rf:oJ _ ww.T:=#[cI,nA,nA]
  have eP:dG _ kk.D:=#[cI,by
   intro x hx;simp only[oj,X5,List.not_mem_nil,or_false]at hx;rcases hx with rfl|rfl|rfl<;>exact nA]
  have gO:fj _ ww.W:=#[cI,by
   intro x hx;simp only[BS,X5,List.not_mem_nil,or_false]at hx;rcases hx with rfl|rfl|rfl|rfl|rfl|rfl|rfl<;>exact nA]
  have W_:bx _ mg "answers" Dd ["calls"]:=dI;obtain⟨fA,fd,KY,gA,_⟩:=W_;have e:=hmg.symm.trans gA;cases e;have F2:=KY;obtain⟨⟨oc,od,kV,doc,pm,an,cdv,ct,osl,Xa,lk,hcd⟩,kp⟩:=KY;refine#[fd,λs us hl=>?_,λbase XS Gb hcb BM=>?_]
  .rw[Xa]
   match us,hl with
   |[_],_=>exact .of_eq rfl
  have ok:cY.Ok:=#[by decide,by decide,by decide]
  have ko:Kw.Ok:=#[by decide,by decide,by decide,by decide,by decide,by decide,by decide,by decide,by decide,by decide,by decide,by decide]
  have DN:=W2 (x:="draw_names") (st:=s_) (ps:=["entries","used"]) KX G ht (hcb _ (aar.mpr ht)) (by k_is) (by k_is) (by k_is) (by k_is) (λ_ _ _ _ _ _ us hl=>match us,hl with|[_,_],_=>rfl);show eR PG w (hd.heap_1 w.params) mg base fY 19 _ _ ["calls"] (Dc (hd.heap_1 w.params) 336);have Az:=RM (P:=PG) (w:=w) (base:=base) dI;have AB:=RU dI Az;have k7:=RR (P:=PG) (w:=w) (base:=base) dI;have AD:=RV lS dI k7;have qj:=R1 lS ok eO kI mG AB AD;have BB:=Sa lS dI qj;have BY:=Ub fv eP ok kI mG BB;have BZ:=UU (P:=PG) (w:=w) (base:=base) (C:=ww.T) oU rf kI mG;have qM:=U3 ko gO mI BY BZ;have De:=Va kI mG qM;have Df:=WV (P:=PG) (w:=w) (base:=base) mG tW W9 gi dI;have B1:=U2 (P:=PG) (w:=w) (base:=base) dI;have CZ:=Vi kC gO mI B1 qM;have n_:=Rx (P:=PG) (w:=w) (base:=base) uy dI;have Al:=Ry uy dI n_;have Am:=Rz (P:=PG) (w:=w) (base:=base) uy dI;have An:=RG uy dI n_ Al Am;have Bb:=RJ uy dI An;have qz:=R6 lS eO mI qj;have Bc:=R9 eO mI k7;have qA:=S4 (P:=PG) (w:=w) (base:=base) fv eP ok mI;have Cw:=S6 fv eO eP ok mI Bb qz Bc qA;have gd:=R5 (P:=PG) (w:=w) (base:=base) lS eO mI;have qw:=R_ lS eO mI k7;have Cy:=S9 fv eO eP ok mI gd qw qz qA;have Cz:=S2 (P:=PG) (w:=w) (base:=base) fv eP ok mI;have CA:=S3 (P:=PG) (w:=w) (base:=base) fv eP ok mI;have C0:=Wk q_ dI Cw Cy Cz CA;have CB:=SQ fv eO eP mI gd;have CC:=SR fv eO eP mI gd;have CD:=SS fv eO eP mI gd qw;have C1:=Wl q_ dI CB CC CD;have qo:=RT (P:=PG) (w:=w) (base:=base) lS dI;have zW:=QR (P:=PG) (w:=w) (base:=base) dI;have zY:=QU fu dI zW;have p6:=QW fu dI zY;have zZ:=QT (P:=PG) (w:=w) (base:=base) dI;have z5:=QX fu dI zZ;have p7:=QY fu dI z5;have Ao:=Q2 (P:=PG) (w:=w) (base:=base) fu dI;have Ap:=Q3 (P:=PG) (w:=w) (base:=base) fu dI;have Aq:=QZ (P:=PG) (w:=w) (base:=base) fu dI;have Ar:=Q0 (P:=PG) (w:=w) (base:=base) fu dI;have Aw:=RN dI p6 p7 Ao Ap Aq Ar;have AM:=RO fu dI Aw;have AH:=Sq lS BM DN qo AM;have dE:=Sb (λ_ h=>h.bK) qm ok eO mI AH;have c6:=SG fv eO eP ok mI gd dE;have CF:=SI fv eO eP ok mI c6 dE;have p9:=Q9 (P:=PG) (w:=w) (base:=base) fu dI;have CG:=SM fv eO eP ok mI c6 dE p9;have AU:=Rl fu dI p9;have CH:=SJ fv eO eP ok mI c6 dE AU;have CI:=SV fv eO eP ok mI c6 dE;have Ah:=Q6 fu dI p6 p7;have AV:=Rj fu dI Ah;have CJ:=SK fv eO eP ok mI c6 dE AV qo;have Br:=TC (P:=PG) (w:=w) (base:=base) iC dI;have qI:=Tq (P:=PG) (w:=w) (base:=base) iC dI;have Bs:=TJ iC dI qI;have Bt:=TK (P:=PG) (w:=w) (base:=base) iC dI;have qE:=Ts (P:=PG) (w:=w) (base:=base) iC dI;have qF:=Tt (P:=PG) (w:=w) (base:=base) iC dI;have Bm:=Tr (P:=PG) (w:=w) (base:=base) iC dI;have Bu:=Tu iC dI qE qF Bm;have Bv:=TU iC dI Br Bs Bt Bu
  have Bw:=T1 (P:=PG) (w:=w) (base:=base) oV kI mG;have Bx:=T3 (P:=PG) (w:=w) (base:=base) iC oV mI;have By:=T4 (P:=PG) (w:=w) (base:=base) iC oV mI;have AJ:=T5 iC oV dI Bv Bw qI Bx By qE qF;have lJ:=Sd qm eO mI dE AJ;have CK:=T_ fv eO oV eP ok mI c6 lJ;have C2:=Wm q_ dI CF CG CH CI CJ CK;have lM:=UM (P:=PG) (w:=w) (base:=base) oU dI;have xl:=Uh (P:=PG) (w:=w) (base:=base) dI;have BG:=Ui qZ dI xl;have BH:=Uj (P:=PG) (w:=w) (base:=base) dI;have BN:=Ul qZ dI BG BH;have BK:=Uk (P:=PG) (w:=w) (base:=base) qZ dI;have BO:=Um qZ dI BK;have B4:=Uq qZ dI BN BO;have qN:=Vj kC ok ko gO eP oV mI lJ B4;have CM:=Vm kC ko gO mI lM c6 qN;have lN:=UN (P:=PG) (w:=w) (base:=base) (mg:=mg) (C:=ww.T) rf mI;have CN:=UO (C:=ww.T) oU rf mI lM lN;have CO:=UP (C:=ww.T) oU rf mI lM lN;have lQ:=Vk kC gO mI qN;have qP:=Vs kC ko gO mI c6 lQ;have qQ:=UQ (C:=ww.T) oU rf mI lN;have CP:=Vt kC gO mI qP lQ qQ;have Cb:=UT (P:=PG) (w:=w) (base:=base) (C:=ww.T) oU rf mI;have Cc:=UG (P:=PG) (w:=w) (base:=base) (C:=ww.Z) rb oW oV ko.zp kI mG;have qR:=UE (P:=PG) (w:=w) (base:=base) (C:=ww.Z) rb oW mI;have CQ:=Vw kC ok ko gO eP mI qP lQ qQ Cb lJ Cc qR;have C3:=Wq q_ gO dI CM CN CO CP CQ;have qK:=Uz (P:=PG) (w:=w) (base:=base) (C:=ww.Z) rb oW mI;have lK:=Uy (P:=PG) (w:=w) (base:=base) (mg:=mg) (C:=ww.Z) oW mI;have CS:=UA (C:=ww.Z) rb oW mI qK lK;have CT:=UC (C:=ww.Z) rb oW mI qK;have CU:=UD (P:=PG) (w:=w) (base:=base) (C:=ww.Z) rb oW mI;have CV:=VS kC ko gO mI lK;have CW:=VT ko gO mI lK;have C4:=Wr kC q_ gO dI CS CT CU qR CV CW;have C5:=VU (P:=PG) (w:=w) (base:=base) kC gO eP mI;have Dg:=Wu q_ ko gO dI CZ C0 C1 C2 C3 C4 C5;exact WR fv F2 De Df Dg
 case S=>
  intro w H xs a hO hwi Xb hx;cases hx with|cons h1 h2=>
   cases h2;cases h1 with|lst hs ha=>
    have e:=EV a.1 _ ha;subst e;have ht:(PySem.W.tabIn (hd.heap_1 w.params) "draw_names").isSome=true:=by kernel_rfl
    exact#[_,a.1,rfl,WI hO hs,.inl (hO.tab _ (aar.mpr (KW ht (0,0)))),Xb,λH' p hp=>.lst (af.of hp) (EU _)]
